/- The texts on which the proof of FnExactPlacesFor stands, one behind the other (2 of 2). No condition of their own. -/
import Derived.Test.YtpcdaoeijlifmaaChecked
import Derived.Test.YtpcdaoeijlifmaaFnExactPlacesForP1
import Derived.WalkKit
import Derived.Lib.Hide
import Derived.WalkSpells
import Derived.BigQuiet
import Derived.Deep.QuietTactic
import Derived.Outline
import Derived.Lib.ItoaLen
import Derived.Lib.ItoaMem
import Derived.Laws.IdiomStrings
import Derived.IntWalk
import Derived.Deep.RegionHeld3
import Derived.WalkLawsBesides
import Derived.OwnWalk
import Derived.Deep.LoopGhost
import Derived.Lib.QuietBelow
import Derived.SliceStrings
import Derived.ChangeSlices
/- The contracts of the laws' helpers on slices of strings: szStringS, toStringS, eqStringS. Condition: the slice reads as a list of strings. -/
namespace Go.Proofs.Ytpcdaoeijlifmaa.HelpStr
set_option linter.unusedVariables false
open Go.RowKit
open Go.Proofs.Ytpcdaoeijlifmaa.Rowed

/-- how many bytes the strings hold together -/
def nbytes (l : List ByteArray) : Nat := (l.map ByteArray.size).sum
theorem bytes_take (l : List ByteArray) (k : Nat) (x : ByteArray) (h : l[k]? = some x) : nbytes (l.take (k + 1)) = nbytes (l.take k) + x.size := by
  have hk := (List.getElem?_eq_some_iff.1 h).1
  rw [List.take_succ_eq_append_getElem hk, (List.getElem?_eq_some_iff.1 h).2]
  unfold nbytes; rw [List.map_append, List.sum_append]; simp
theorem bytes_take_le (l : List ByteArray) (k : Nat) : nbytes (l.take k) ≤ nbytes l := by
  conv => rhs; rw [← List.take_append_drop k l]
  unfold nbytes; rw [List.map_append, List.sum_append]; omega

/-- szStringS: what is left of 'left' behind the strings and their number, or -1 where nothing is left -/
def SzPost (l : List ByteArray) (left : Int) (w : World) (e : Ending) (w' : World) : Prop :=
  ((0 ≤ left - (l.length : Int) - (nbytes l : Int) ∧ e = .returned (.int .i64 (left - (l.length : Int) - (nbytes l : Int)))) ∨ (left - (l.length : Int) - (nbytes l : Int) < 0 ∧ e = .returned (.int .i64 (-1)))) ∧ w = w'

set_option maxHeartbeats 400000 in
theorem sz_any (A : Option Addr) (n c : Nat) (l : List ByteArray) (left : Int) (w : World) (h : Strs w A n l) (h0 : 0 ≤ left) (h1 : left ≤ 1048576) (hn : n ≤ 9223372036854775807) (hz : Hid (∀ x ∈ l, x.size ≤ maxLen)) :
    Calls Try.prog 18 #[.slice A n c, .int .i64 left] w (SzPost l left w) := by
  have hl := Lib.hid h.len
  by_cases hbig : left < (n : Int)
  · go_enter Try.func18, Try.ntmps18
    go_wp2
    go_ret
    exact ⟨.inr ⟨by rw [hl.out]; omega, rfl⟩, rfl⟩
  · have HH := Lib.hid h
    clear h
    go_enter Try.func18, Try.ntmps18
    go_wp2
    go_loop [1, 5] (fun t i => ∃ k : Nat, k ≤ n ∧ i = .int .i64 k ∧ t = .int .i64 (left - (n : Int) - (nbytes (l.take k) : Int)) ∧ 0 ≤ left - (n : Int) - (nbytes (l.take k) : Int)) (fun _ i => n - (intOf i).toNat)
    case atStart => exact ⟨0, Nat.zero_le _, rfl, by simp [nbytes], by simp [nbytes]; omega⟩
    case round =>
      obtain ⟨k, hk, rfl, rfl, hpos⟩ := hrel
      by_cases hlt : k < n
      · obtain ⟨ad, x, rfl, hx, hcell⟩ := HH.out.at_ hlt
        have hxs : x.size ≤ 9223372036854775807 := by have := hz.out x (List.mem_of_getElem? hx); unfold maxLen at this; exact this
        have HB := Lib.hid (bytes_take l k x hx)
        have HL := Lib.hid (bytes_take_le l (k + 1))
        clear hx
        go_wp2
        · rename_i hneg
          go_ret
          have e1 := HB.out
          have e2 := HL.out
          exact ⟨.inr ⟨by rw [hl.out]; omega, rfl⟩, rfl⟩
        · rename_i hneg
          go_round
          case rel =>
            have e1 := HB.out
            exact ⟨k + 1, by omega, by go_num, by rw [e1]; congr 1; omega, by omega⟩
          case measure => simp [intOf]; omega
      · have e : l.take k = l := List.take_of_length_le (by rw [hl.out]; omega)
        have HE := Lib.hid e
        clear e
        go_wp2
        go_ret
        rw [HE.out] at hpos
        exact ⟨.inl ⟨by rw [hl.out]; exact hpos, by rw [hl.out]; first | rfl | (rw [HE.out]; rfl)⟩, rfl⟩
theorem sz_pos (A : Option Addr) (n c : Nat) (l : List ByteArray) (left : Int) (w : World) (h : Strs w A n l) (h0 : 0 ≤ left) (h1 : left ≤ 1048576) (hn : n ≤ 9223372036854775807) (hz : Hid (∀ x ∈ l, x.size ≤ maxLen)) (hp : 0 ≤ left - (l.length : Int) - (nbytes l : Int)) :
    Calls Try.prog 18 #[.slice A n c, .int .i64 left] w fun e w' => (∃ r : Int, 0 ≤ r ∧ r ≤ left ∧ e = .returned (.int .i64 r)) ∧ w = w' :=
  (sz_any A n c l left w h h0 h1 hn hz).mono fun e w' ⟨h, hw⟩ => ⟨by rcases h with ⟨h, he⟩ | ⟨h, he⟩; exact ⟨_, hp, by omega, he⟩; omega, hw⟩
theorem sz_neg (A : Option Addr) (n c : Nat) (l : List ByteArray) (left : Int) (w : World) (h : Strs w A n l) (h0 : 0 ≤ left) (h1 : left ≤ 1048576) (hn : n ≤ 9223372036854775807) (hz : Hid (∀ x ∈ l, x.size ≤ maxLen)) (hp : left - (l.length : Int) - (nbytes l : Int) < 0) :
    Calls Try.prog 18 #[.slice A n c, .int .i64 left] w fun e w' => e = .returned (.int .i64 (-1)) ∧ w = w' :=
  (sz_any A n c l left w h h0 h1 hn hz).mono fun e w' ⟨h, hw⟩ => ⟨by rcases h with ⟨h, he⟩ | ⟨h, he⟩; omega; exact he, hw⟩
theorem size_le_bytes (l : List ByteArray) : ∀ x ∈ l, x.size ≤ nbytes l := by
  induction l with
  | nil => intro x hx; simp at hx
  | cons y r ih =>
    intro x hx
    have e : nbytes (y :: r) = y.size + nbytes r := by unfold nbytes; simp
    rcases List.mem_cons.1 hx with rfl | h
    · omega
    · have := ih x h; omega
theorem strs_own {w : World} {base n c g : Nat} {e : TypeId} {l : List ByteArray} (h : w.ownsRow base e 1 (.slice (some ⟨g, 0, none⟩) n c) n (l.map Value.string)) : Strs w (some ⟨g, 0, none⟩) n l := Cells.of_own h

theorem infoS : (Try.prog.info? 9).map (fun i => (i.zero, i.size, i.bytes)) = some (some (.string ByteArray.empty), 1, 16) := by kernel_rfl

/-- toStringS: a new row with the same strings -/
def ToPost (l : List ByteArray) (w : World) (e : Ending) (w' : World) : Prop :=
  ∃ g, e = .returned (.slice (some ⟨g, 0, none⟩) l.length l.length) ∧ w'.ownsRow w.heap.size 9 1 (.slice (some ⟨g, 0, none⟩) l.length l.length) l.length (l.map Value.string) ∧ Below w.heap.size w w'

def RelTo (l : List ByteArray) (ys : List Value) (w : World) (k : Nat) (wr : World) : Prop :=
  wr.ownsRow w.heap.size 9 1 (.slice (some ⟨w.heap.size, 0, none⟩) l.length l.length) l.length (fill (l.map Value.string) ys k) ∧ Below w.heap.size w wr

theorem rel_start {l : List ByteArray} {w w1 : World} {ys : List Value} (h : w1.ownsRow w.heap.size 9 1 (.slice (some ⟨w.heap.size, 0, none⟩) l.length l.length) l.length ys) (hg : w.grownBy w1 none) :
    ∃ zs : List Value, Hid (zs.length = l.length) ∧ RelTo l zs w 0 w1 :=
  ⟨ys, Lib.hid (by have := h.1; omega), by rw [fill_zero]; exact h, (Below.refl _ _).grown hg (Nat.le_refl _) (by simp)⟩

theorem rel_round {l : List ByteArray} {ys : List Value} {w wr : World} {k : Nat} {x : ByteArray} (h : RelTo l ys w k wr) (hy : Hid (ys.length = l.length)) (hx : l[k]? = some x) :
    ∃ y, wr.cell? ⟨w.heap.size, k, none⟩ = some y ∧ wr.frozen? ⟨w.heap.size, k, none⟩ = false ∧ RelTo l ys w (k + 1) (wr.setCell ⟨w.heap.size, k, none⟩ (.string x)) := by
  have hy' : ys.length = l.length := hy
  have hk := (List.getElem?_eq_some_iff.1 hx).1
  have hlen : (fill (l.map Value.string) ys k).length = l.length := by rw [fill_len _ _ _ (by simpa using hy')]; exact hy'
  have hc := h.1.cellAt k (by omega)
  rw [List.getElem?_eq_getElem (by omega)] at hc
  refine ⟨_, hc, h.1.frozenAt k, ?_, h.2.setCell (Nat.le_refl _) _⟩
  have := (h.1.stored k (.string x)).1
  rw [fill_set _ _ _ _ (by omega) (by rw [List.getElem?_map, hx]; rfl)] at this
  exact this

theorem rel_end {l : List ByteArray} {ys : List Value} {w wr : World} (h : RelTo l ys w l.length wr) (hy : Hid (ys.length = l.length)) :
    wr.ownsRow w.heap.size 9 1 (.slice (some ⟨w.heap.size, 0, none⟩) l.length l.length) l.length (l.map Value.string) ∧ Below w.heap.size w wr := by
  have hy' : ys.length = l.length := hy
  have e := fill_all (l.map Value.string) ys (by simpa using hy')
  rw [List.length_map] at e
  have h1 := h.1
  rw [e] at h1
  exact ⟨h1, h.2⟩

set_option maxHeartbeats 800000 in
theorem to_any (A : Option Addr) (c : Nat) (l : List ByteArray) (w : World) (h : Strs w A l.length l) (hn : l.length ≤ 1048576) :
    Calls Try.prog 21 #[.slice A l.length c] w (ToPost l w) := by
  obtain ⟨i0, hi, hz0, hz1, hz2⟩ := info_parts infoS
  have HH := Lib.hid h
  clear h
  go_enter Try.func21, Try.ntmps21
  go_wp2_with (at_make; refine wpList_make_full _ rfl _ _ 34 rfl w.heap.size 9 i0 (.string ByteArray.empty) 1 Try.underlying34 hi hz0 hz1 .i64 .i64 _ _ l.length rfl rfl rfl rfl (by rw [hz2]; omega) (by unfold maxLen; omega) (Nat.le_refl _) ?_; intro w1 hO hG; obtain ⟨ys, hys, hR0⟩ := rel_start hO hG; clear hO hG)
  go_loopw [4] (fun i wr => ∃ k : Nat, k ≤ l.length ∧ i = .int .i64 k ∧ RelTo l ys w k wr) (fun i _ => l.length - (intOf i).toNat)
  case atStart => exact ⟨0, Nat.zero_le _, rfl, hR0⟩
  case round =>
    obtain ⟨k, hk, rfl, hR⟩ := hrel
    by_cases hlt : k < l.length
    · obtain ⟨ad, x, rfl, hx, hcell0⟩ := HH.out.at_ hlt
      have hcell := cell_below hR.2 hcell0
      obtain ⟨y, hc, hf, hset⟩ := rel_round hR hys hx
      have HS := Lib.hid hset
      clear hR hx hcell0 hset
      go_wp2
      go_roundw
      case rel => exact ⟨k + 1, by omega, by go_num, HS.out⟩
      case measure => simp [intOf]; omega
    · obtain rfl : k = l.length := by omega
      have HF := Lib.hid (rel_end hR hys)
      clear hR
      go_wp2
      go_ret
      exact ⟨_, rfl, HF.out⟩
set_option maxHeartbeats 800000 in
/-- eqStringS, where both slices hold the same strings -/
theorem eq_same (A B : Option Addr) (n c d : Nat) (l : List ByteArray) (w : World) (h1 : Strs w A n l) (h2 : Strs w B n l) (hn : n ≤ 9223372036854775807) :
    Calls Try.prog 25 #[.slice A n c, .slice B n d] w fun e w' => e = .returned (.bool true) ∧ DrawnTo w w' := by
  have H1 := Lib.hid h1
  have H2 := Lib.hid h2
  clear h1 h2
  go_enter Try.func25, Try.ntmps25
  go_wp2
  go_loopw [5] (fun i wr => ∃ k : Nat, k ≤ n ∧ i = .int .i64 k ∧ DrawnTo w wr) (fun i _ => n - (intOf i).toNat)
  case atStart => exact ⟨0, Nat.zero_le _, rfl, 0, rfl⟩
  case round =>
    obtain ⟨k, hk, rfl, m, rfl⟩ := hrel
    by_cases hlt : k < n
    · obtain ⟨ad, x, rfl, hx, hc1⟩ := H1.out.at_ hlt
      obtain ⟨bd, y, rfl, hy, hc2⟩ := H2.out.at_ hlt
      obtain rfl : x = y := by rw [hx] at hy; exact Option.some.inj hy
      clear hx hy
      have hb1 : 0 ≤ (k : Int) := by omega
      have hb2 : (k : Int) < n := by omega
      go_wp2_with fail
      go_quiet (fail)
      go_wp2_with fail
      go_roundw
      case rel => exact ⟨k + 1, by omega, by go_num, _, rfl⟩
      case measure => simp [intOf]; omega
    · go_wp2
      go_ret
      exact ⟨rfl, m, rfl⟩
end Go.Proofs.Ytpcdaoeijlifmaa.HelpStr

/- The contracts of the laws' helpers that mark a slice of strings and look whether the marks are held: markText, markStringS, heldStringS. Conditions: the marks begin at 1 or more; the slice is one that the caller has made. -/
namespace Go.Proofs.Ytpcdaoeijlifmaa.MarkStr
set_option linter.unusedVariables false
open Go.RowKit
open Go.Proofs.Ytpcdaoeijlifmaa.Rowed Go.Proofs.Ytpcdaoeijlifmaa.HelpStr

/-- the mark of number k -/
def mt (k : Nat) : ByteArray := ⟨(109 :: Lib.decDigits k).toArray⟩

theorem ext_of {a b : ByteArray} (h : a.data.toList = b.data.toList) : a = b := by
  obtain ⟨⟨x⟩⟩ := a
  obtain ⟨⟨y⟩⟩ := b
  simp at h
  rw [h]
theorem add_str {P : Program} (a b c : ByteArray) (h : a.data.toList ++ b.data.toList = c.data.toList) (hl : c.data.toList.length ≤ 9223372036854775807) (W : World) :
    (Op.stringOp .add a b).run P W = .ok (.string c) W := by
  have e1 : a.data.toList.length = a.size := by simp
  have e2 : b.data.toList.length = b.size := by simp
  rw [← h, List.length_append, e1, e2] at hl
  rw [run_string_add_sum]
  · congr 2
    apply ext_of
    rw [← h]
    simp
  · exact hl
theorem dec_small (j : Nat) (h : j < 10) : Lib.decDigits j = [UInt8.ofNat (48 + j % 10)] := by
  rw [Lib.decDigits_one h, Nat.mod_eq_of_lt h]
theorem dec_step (j : Nat) (h : ¬ j < 10) : Lib.decDigits j = Lib.decDigits (j / 10) ++ [UInt8.ofNat (48 + j % 10)] := by
  rw [Lib.decDigits, dif_neg h]

/-- what is done when j is what is left: o -/
def Rel (k j : Nat) (o : List UInt8) : Prop := (if j = 0 then [] else Lib.decDigits j) ++ o = Lib.decDigits k
theorem Rel.next {k j : Nat} {o : List UInt8} (h : Rel k j o) (hj : 0 < j) : Rel k (j / 10) (UInt8.ofNat (48 + j % 10) :: o) := by
  unfold Rel at h ⊢
  rw [if_neg (by omega)] at h
  by_cases h10 : j < 10
  · rw [if_pos (by omega)]
    rw [dec_small j h10] at h
    exact h
  · rw [if_neg (by omega)]
    rw [dec_step j h10, List.append_assoc] at h
    exact h
theorem Rel.len {k j : Nat} {o : List UInt8} (h : Rel k j o) (hk : k ≤ 1000000000) : o.length ≤ 20 := by
  have h1 := congrArg List.length h
  rw [List.length_append, Lib.decDigits_length] at h1
  have := Lib.nDigits_le20 k (by omega)
  omega
theorem byte_num (j : Nat) : ((UInt8.ofNat (48 + j % 10)).toNat : Int) = 48 + (j : Int) % 10 := by
  rw [UInt8.toNat_ofNat']; omega

theorem conv_one {P : Program} (W : World) (src dst e : TypeId) (c : UInt8) (hs : P.underlying src = some (.slice e)) (he : P.underlying e = some (.int .u8)) (hd : P.underlying dst = some .string) :
    (convert src dst (.slice (some ⟨W.heap.size, 0, none⟩) 1 1)).run P (W.alloc (.cells #[.int .u8 (c.toNat : Int)] e)) = .ok (.string ⟨#[c]⟩) (W.alloc (.cells #[.int .u8 (c.toNat : Int)] e)) := by
  have := run_convert_bytes_back (P := P) (W.alloc (.cells #[.int .u8 (c.toNat : Int)] e)) src dst e ⟨W.heap.size, 0, none⟩ 1 [c] hs he hd (fun j hj => by
    have : j = 0 := by simpa using hj
    subst this
    rw [show (⟨W.heap.size, 0, none⟩ : Addr).add 0 = ⟨W.heap.size, 0, none⟩ from rfl, World.cell?_alloc_new]
    rfl)
  exact this

set_option maxHeartbeats 1000000 in
theorem markText_any (k : Nat) (w : World) (h1 : 1 ≤ k) (h2 : k ≤ 1000000000) :
    Calls Try.prog 66 #[.int .i64 (k : Int)] w fun e w' => e = .returned (.string (mt k)) ∧ Below w.heap.size w w' := by
  have hk0 : decide (k = 0) = false := by simp; omega
  go_enter Try.func66, Try.ntmps66
  go_wp2
  go_loopw [0, 3] (fun t o wr => ∃ (j : Nat) (q : ByteArray), j ≤ k ∧ t = .int .i64 j ∧ o = .string q ∧ Hid (Rel k j q.data.toList) ∧ Hid (Below w.heap.size w wr)) (fun t _ _ => (intOf t).toNat)
  case atStart => exact ⟨k, ⟨#[]⟩, Nat.le_refl _, rfl, rfl, Lib.hid (by unfold Rel; rw [if_neg (by omega)]; simp), Lib.hid (Below.refl _ _)⟩
  case round =>
    obtain ⟨j, q, hjk, rfl, rfl, HR, HB⟩ := hrel
    by_cases hj : 0 < j
    · obtain ⟨ch, hch, HN⟩ : ∃ ch : UInt8, (ch.toNat : Int) = 48 + (j : Int) % 10 ∧ Hid (Rel k (j / 10) (ch :: q.data.toList)) := ⟨_, byte_num j, HR.out.next hj⟩
      have hadd := add_str (P := Try.prog) ⟨#[ch]⟩ q ⟨(ch :: q.data.toList).toArray⟩ rfl (by have := HN.out.len h2; show (ch :: q.data.toList).length ≤ _; omega)
      have hcv := fun W => conv_one (P := Try.prog) W 120 9 5 ch Try.underlying120 Try.underlying5 Try.underlying9
      rw [hch] at hcv
      have HB3 := Lib.hid (HB.out.alloc HB.out.size (.cells #[.int .u8 (48 + (j : Int) % 10)] 5))
      clear hch
      go_wp2
      go_roundw
      case rel => exact ⟨j / 10, _, by omega, by go_num, rfl, HN, HB3⟩
      case measure => simp [intOf]; omega
    · obtain rfl : j = 0 := by omega
      have hfin : q.data.toList = Lib.decDigits k := HR.out
      have HF := Lib.hid hfin
      have hadd := add_str (P := Try.prog) ⟨#[109]⟩ q (mt k) (by unfold mt; rw [hfin]; rfl) (by have := HR.out.len h2; rw [hfin] at this; show (109 :: Lib.decDigits k).length ≤ _; rw [List.length_cons]; omega)
      clear hfin
      go_wp2
      go_ret
      exact ⟨rfl, HB.out⟩

/-- the marks k, k + 1, .. -/
def marks (k n : Nat) : List Value := (List.range n).map fun i => Value.string (mt (k + i))
theorem marks_len (k n : Nat) : (marks k n).length = n := by simp [marks]
theorem marks_at (k n i : Nat) (h : i < n) : (marks k n)[i]? = some (.string (mt (k + i))) := by
  unfold marks; rw [List.getElem?_map, List.getElem?_range h]; rfl
theorem grown_of {W W' : World} (h : Below W.heap.size W W') : W.grownBy W' none := ⟨h.os, h.tape, h.output, h.size, fun k hk _ => h.block k hk⟩
theorem grown_weak {W W' : World} (h : W.grownBy W' none) (g : Nat) : W.grownBy W' (some g) := ⟨h.os, h.tape, h.output, h.size, fun k hk _ => h.block k hk (by simp)⟩
theorem grown_tr {a b c : World} {r : Option Nat} (h : a.grownBy b r) (k : b.grownBy c r) : a.grownBy c r :=
  ⟨k.os.trans h.os, k.tape.trans h.tape, k.output.trans h.output, Nat.le_trans h.size k.size, fun i hi hr => (k.block i (Nat.lt_of_lt_of_le hi h.size) hr).trans (h.block i hi hr)⟩

def MarkRel (w : World) (base g n c k : Nat) (xs : List Value) (i : Nat) (wr : World) : Prop :=
  wr.ownsRow base 9 1 (.slice (some ⟨g, 0, none⟩) n c) n (fill (marks k n) xs i) ∧ w.grownBy wr (some g)

theorem mark_next {w wr w1 : World} {base g n c k i : Nat} {xs : List Value} (h : MarkRel w base g n c k xs i wr) (hb : Below wr.heap.size wr w1) (hxs : xs.length = n) (hi : i < n) :
    ∃ y, w1.cell? ⟨g, i, none⟩ = some y ∧ w1.frozen? ⟨g, i, none⟩ = false ∧ MarkRel w base g n c k xs (i + 1) (w1.setCell ⟨g, i, none⟩ (.string (mt (k + i)))) := by
  have hk := grown_of hb
  have h1 : w1.ownsRow base 9 1 (.slice (some ⟨g, 0, none⟩) n c) n (fill (marks k n) xs i) := h.1.kept hk (.inr (by simp [Value.ownBlock]))
  have hlen : (fill (marks k n) xs i).length = n := by rw [fill_len _ _ _ (by rw [marks_len, hxs])]; exact hxs
  have hc := h1.cellAt i (by omega)
  rw [List.getElem?_eq_getElem (by omega)] at hc
  refine ⟨_, hc, h1.frozenAt i, ?_, ?_⟩
  · have := (h1.stored i (.string (mt (k + i)))).1
    rw [fill_set _ _ _ _ (by omega) (marks_at k n i hi)] at this
    exact this
  · exact grown_tr h.2 (grown_tr (grown_weak hk g) (h1.stored i (.string (mt (k + i)))).2)

def MarkPost (w : World) (base g n c k : Nat) (e : Ending) (w' : World) : Prop :=
  e = .returned (.int .i64 ((k + n : Nat) : Int)) ∧ w'.ownsRow base 9 1 (.slice (some ⟨g, 0, none⟩) n c) n (marks k n) ∧ w.grownBy w' (some g)

set_option maxHeartbeats 1000000 in
theorem mark_any (w : World) (base g n c k : Nat) (xs : List Value) (h : w.ownsRow base 9 1 (.slice (some ⟨g, 0, none⟩) n c) n xs) (hn : n ≤ 1048576) (hk : 1 ≤ k) (hk2 : k ≤ 1048576) :
    Calls Try.prog 27 #[.slice (some ⟨g, 0, none⟩) n c, .int .i64 (k : Int)] w (MarkPost w base g n c k) := by
  have hxs : Hid (xs.length = n) := Lib.hid (by have := h.1; omega)
  have HR0 : Hid (MarkRel w base g n c k xs 0 w) := Lib.hid ⟨by rw [fill_zero]; exact h, ⟨rfl, rfl, rfl, Nat.le_refl _, fun _ _ _ => rfl⟩⟩
  clear h
  go_enter Try.func27, Try.ntmps27
  go_wp2_with fail
  go_loopw [1, 5] (fun t i wr => ∃ j : Nat, j ≤ n ∧ i = .int .i64 j ∧ t = .int .i64 ((k + j : Nat) : Int) ∧ Hid (MarkRel w base g n c k xs j wr)) (fun _ i _ => n - (intOf i).toNat)
  case atStart => exact ⟨0, Nat.zero_le _, rfl, rfl, HR0⟩
  case round =>
    obtain ⟨j, hj, rfl, rfl, HR⟩ := hrel
    by_cases hlt : j < n
    · go_wp2_with (go_at_call 66; refine (markText_any (k + j) wr (by omega) (by omega)).mono ?_; rintro e w1 ⟨rfl, hb⟩; obtain ⟨y, hc, hf, hR1⟩ := mark_next HR.out hb hxs.out hlt; have HR1 := Lib.hid hR1; clear hb hR1)
      go_roundw
      case rel => exact ⟨j + 1, by omega, by go_num, by go_num, HR1⟩
      case measure => simp [intOf]; omega
    · obtain rfl : j = n := by omega
      have HF := Lib.hid HR.out.1
      go_wp2_with fail
      go_ret
      exact ⟨rfl, by rw [← fill_all (marks k j) xs (by rw [marks_len]; exact hxs.out), marks_len]; exact HF.out, HR.out.2⟩

theorem keep_both {w X w1 : World} {a : Addr} {v : Value} (hb : Below X.heap.size X w1) (h : X.cell? a = some v ∧ Below w.heap.size w X) : w1.cell? a = some v ∧ Below w.heap.size w w1 :=
  ⟨cell_below hb h.1, Below.step h.2 hb⟩
def HeldPost (w : World) (k n : Nat) (e : Ending) (w' : World) : Prop := e = .returned (.int .i64 ((k + n : Nat) : Int)) ∧ Below w.heap.size w w'

set_option maxHeartbeats 1000000 in
theorem held_any (w : World) (base g n c k : Nat) (h : w.ownsRow base 9 1 (.slice (some ⟨g, 0, none⟩) n c) n (marks k n)) (hn : n ≤ 1048576) (hk : 1 ≤ k) (hk2 : k ≤ 1048576) :
    Calls Try.prog 33 #[.slice (some ⟨g, 0, none⟩) n c, .int .i64 (k : Int)] w (HeldPost w k n) := by
  have HH : Hid (∀ j, j < n → w.cell? ⟨g, j, none⟩ = some (.string (mt (k + j)))) := Lib.hid fun j hj => by rw [h.cellAt j (by omega), marks_at k n j hj]
  clear h
  go_enter Try.func33, Try.ntmps33
  go_wp2_with fail
  go_loopw [1, 5] (fun t i wr => ∃ j : Nat, j ≤ n ∧ i = .int .i64 j ∧ t = .int .i64 ((k + j : Nat) : Int) ∧ Hid (Below w.heap.size w wr)) (fun _ i _ => n - (intOf i).toNat)
  case atStart => exact ⟨0, Nat.zero_le _, rfl, rfl, Lib.hid (Below.refl _ _)⟩
  case round =>
    obtain ⟨j, hj, rfl, rfl, HB⟩ := hrel
    by_cases hlt : j < n
    · have hcell : wr.cell? ⟨g, j, none⟩ = some (.string (mt (k + j))) := cell_below HB.out (HH.out j hlt)
      have hbel : Below w.heap.size w wr := HB.out
      go_wp2_with fail
      go_region_held3 (fun w' => w'.cell? ⟨g, j, none⟩ = some (.string (mt (k + j))) ∧ Below w.heap.size w w') (first | exact ⟨hcell, hbel.drew⟩ | exact keep_both hb (by assumption) | go_keep)
        (first | (go_at_call 66; refine (markText_any (k + j) _ (by omega) (by omega)).mono ?_; rintro e w1 ⟨rfl, hb⟩))
      rename_i hX
      have HX := Lib.hid hX.2
      clear hX
      go_wp2_with fail
      go_roundw
      case rel => exact ⟨j + 1, by omega, by go_num, by go_num, HX⟩
      case measure => simp [intOf]; omega
    · obtain rfl : j = n := by omega
      go_wp2_with fail
      go_ret
      exact ⟨rfl, HB.out⟩
end Go.Proofs.Ytpcdaoeijlifmaa.MarkStr

/- markText as a plain function, from 1 to a billion; the contract of the program's. No condition. -/
namespace Go.Proofs.Ytpcdaoeijlifmaa.GlMarkText
set_option linter.unusedVariables false
open Go.RowKit
open Go.Proofs.Ytpcdaoeijlifmaa.Turn
def P (k : Int) : Option ByteArray := if 1 ≤ k ∧ k ≤ 1000000000 then some (Go.Proofs.Ytpcdaoeijlifmaa.MarkStr.mt k.toNat) else none
theorem C (k : Int) (w : World) {r : ByteArray} (H : Hid (P k = some r)) : Calls Try.prog 66 #[.int .i64 k] w (Gives (.string r) w) := by
  have h : P k = some r := H
  unfold P at h
  by_cases hk : 1 ≤ k ∧ k ≤ 1000000000
  · rw [if_pos hk] at h
    obtain rfl := Option.some.inj h
    obtain ⟨n, rfl⟩ := Int.eq_ofNat_of_zero_le (show 0 ≤ k by omega)
    exact Go.Proofs.Ytpcdaoeijlifmaa.MarkStr.markText_any n w (by omega) (by omega)
  · rw [if_neg hk] at h; simp at h
end Go.Proofs.Ytpcdaoeijlifmaa.GlMarkText

/- loop.example/g01062/laws.markStringS as a plain function, and the contract of the program's: where the plain one has an answer, the program has it. Conditions: slices read as lists. -/
namespace Go.Proofs.Ytpcdaoeijlifmaa.GlMarkStringS
set_option linter.unusedVariables false
set_option linter.unusedSimpArgs false
open Go.RowKit
open Go.Proofs.Ytpcdaoeijlifmaa.Rowed Go.Proofs.Ytpcdaoeijlifmaa.Turn Go.Proofs.Ytpcdaoeijlifmaa.Aid Go.Proofs.Ytpcdaoeijlifmaa.GoP Go.Proofs.Ytpcdaoeijlifmaa.GoM

def l0  (k0 : Nat) (s : (List ByteArray) × Int) (nx0 bk0 : (List ByteArray) × Int → Option (Int × (List ByteArray))) : Option (Int × (List ByteArray)) :=
  unp2 s fun a_0l0 k_1l0 =>
  Option.bind (Go.Proofs.Ytpcdaoeijlifmaa.GlMarkText.P k_1l0) fun (t_9 : ByteArray) =>
  Option.bind (idx a_0l0 (k0 : Int)) fun (yt_10 : ByteArray) =>
  letK (a_0l0.set k0 t_9) fun (l11_11 : (List ByteArray)) =>
  letK (IntKind.i64.wrap (k_1l0 + 1)) fun (t_13 : Int) =>
  appK nx0 (l11_11, t_13)

def e0  (s : (List ByteArray) × Int) : Option (Int × (List ByteArray)) :=
  unp2 s fun a_0l0 k_1l0 =>
  some (k_1l0, a_0l0)

def P (a : (List ByteArray)) (k_1 : Int) : Option (Int × (List ByteArray)) :=
  cntK (l0 ) (a.length) 0 (a, k_1) (e0 )

set_option maxRecDepth 100000 in
set_option maxHeartbeats 2000000 in
theorem C (a : (List ByteArray)) (k_1 : Int) (A0 : Option Addr) (c0 : Nat)  (b0 : Nat) (w : World) (M0 : Hid (w.ownsRow b0 9 1 (.slice A0 a.length c0) a.length (a.map Value.string))) (N0 : Hid (a.length ≤ 9223372036854775807))  {r : Int} {l_ : (List ByteArray)} (H : Hid (P a k_1 = some (r, l_))) :
    Calls Try.prog 27 #[.slice A0 a.length c0, .int .i64 k_1] w (fun e w' => e = .returned (.int .i64 r) ∧ w'.ownsRow b0 9 1 (.slice A0 a.length c0) a.length (l_.map Value.string) ∧ l_.length = a.length ∧ w.grownBy w' (Value.slice A0 a.length c0).ownBlock) := by
  have HB := Lib.hid (Aid.grown_refl w (Value.slice A0 a.length c0).ownBlock)
  unfold P at H
  have N0o := N0.out
  go_enter Try.func27, Try.ntmps27
  go_wp2_with fail
  have hb_0 : a.length ≤ 9223372036854775807 := own_max M0.out
  go_wp2_with fail
  go_loopg [5, 1] (a.length) (fun m_ v5_ v1_ wr => ∃ (k0 : Nat) (a_0l0 : (List ByteArray)) (k_1l0 : Int), k0 + m_ = a.length ∧ v5_ = .int .i64 (k0 : Int) ∧ v1_ = .int .i64 k_1l0 ∧ Hid (cntK (l0 ) m_ k0 (a_0l0, k_1l0) (e0 ) = some (r, l_)) ∧ Hid (w.grownBy wr (Value.slice A0 a.length c0).ownBlock) ∧ Hid (wr.ownsRow b0 9 1 (.slice A0 a.length c0) a.length (a_0l0.map Value.string)) ∧ Hid (a_0l0.length = a.length))
  case atStart => exact ⟨0, _, _, by omega, rfl, rfl, H, HB, M0, Lib.hid (rfl)⟩
  case round =>
    obtain ⟨k0, a_0l0, k_1l0, hkm0, rfl, rfl, H, HBwr0, Oa_0l0, hna_0l0⟩ := hrel
    rename World => wr0
    cases gk with
    | zero =>
      obtain rfl : k0 = a.length := by omega
      have hc0 : decide (((a.length : Nat) : Int) < ((a.length : Nat) : Int)) = false := by simp
      replace H := cnt_zero H
      unfold e0 at H
      replace H := unp2_hid H
      cases ret_hid H
      go_wp2_with fail
      go_ret
      exact ⟨rfl, Oa_0l0.out, hna_0l0.out, HBwr0.out⟩
    | succ m0 =>
      have hlt0 : k0 < a.length := by omega
      have hc0 : decide ((k0 : Int) < ((a.length : Nat) : Int)) = true := by simp; omega
      replace H := cnt_succ H
      unfold l0 at H
      replace H := unp2_hid H
      replace H := bind_hid H
      obtain ⟨t_9, qt_9, H⟩ := H
      go_wp2_with fail
      go_at_call 66
      refine (Go.Proofs.Ytpcdaoeijlifmaa.GlMarkText.C (k_1l0)  _    qt_9).mono ?_
      rintro e_t_9 wt_9 ⟨rfl, bt_9⟩
      have HBwt_9 := Lib.hid (grown_below HBwr0.out bt_9)
      replace Oa_0l0 := Lib.hid (own_below Oa_0l0.out bt_9)
      clear bt_9
      replace H := idx_hid H
      obtain ⟨nt_10, yt_10, et_10, lt_10, gt_10, H⟩ := H
      obtain rfl : k0 = nt_10 := by omega
      clear et_10
      have hqt_10 := hna_0l0.out
      obtain ⟨qt_10, Qt_10⟩ := own_some Oa_0l0.out (by omega)
      subst Qt_10
      obtain ⟨ab_t_10, ao_t_10, zt_10, At_10, z_t_10, ct_10_0⟩ := strs_at (own_cells Oa_0l0.out) (k := k0) (by omega)
      obtain rfl := Option.some.inj (gt_10.out.symm.trans z_t_10)
      simp only [Option.some.injEq, Addr.mk.injEq] at At_10
      obtain ⟨rfl, rfl, _⟩ := At_10
      clear z_t_10
      simp only [Nat.zero_add] at ct_10_0
      have b0t_10 : (0 : Int) ≤ (k0 : Int) := by omega
      have b1t_10 : (k0 : Int) < ((a.length : Nat) : Int) := by omega
      have b2t_10 : ((k0 : Int)).toNat = k0 := by omega
      clear hqt_10
      replace H := let_hid H
      obtain ⟨l11_11, hl11_11, H⟩ := H
      obtain ⟨wl11_11, hwl11_11⟩ : ∃ x, (wt_9).setCell ⟨qt_10, k0, none⟩ (.string t_9) = x := ⟨_, rfl⟩
      have z0l11_11 := Oa_0l0.out.frozenAt (k0)
      have Sl11_11 := Lib.hid (own_stores [(k0, .string t_9)] Oa_0l0.out)
      have nl11_11 : Hid (l11_11.length = a.length) := Lib.hid (by rw [← hl11_11, List.length_set]; exact hna_0l0.out)
      have Pl11_11 : Hid (wl11_11.ownsRow b0 9 1 (.slice (some ⟨qt_10, 0, none⟩) a.length c0) a.length (l11_11.map Value.string)) := Lib.hid (by have e_ : ([(k0, .string t_9)] : List (Nat × Value)).foldl (fun xs p => xs.set p.1 p.2) (a_0l0.map Value.string) = (l11_11.map Value.string) := (by rw [← hl11_11]; first | done | simp [List.map_set]); rw [← hwl11_11, ← e_]; exact Sl11_11.out.1)
      have Gl11_11 : Hid (wt_9.grownBy wl11_11 (Value.slice (some ⟨qt_10, 0, none⟩) a.length c0).ownBlock) := Lib.hid (by rw [← hwl11_11]; exact Sl11_11.out.2)
      have HBwl11_11 := Lib.hid (Aid.grown_tr HBwt_9.out Gl11_11.out)
      have hhl11_11 := Lib.hid hl11_11
      clear hl11_11 Sl11_11
      clear Oa_0l0 Gl11_11
      replace H := let_hid H
      obtain ⟨t_13, ht_13, H⟩ := H
      replace H := app_hid H
      go_wp2_with fail
      clear z0l11_11 ct_10_0
      go_roundg m0
      case measure => omega
      case rel => exact ⟨k0 + 1, _, _, by omega, by go_num, rfl, H, HBwl11_11, Pl11_11, Lib.hid (nl11_11.out)⟩
end Go.Proofs.Ytpcdaoeijlifmaa.GlMarkStringS

/- loop.example/g01062/laws.markBlock as a plain function, and the contract of the program's: where the plain one has an answer, the program has it. Conditions: slices read as lists. -/
namespace Go.Proofs.Ytpcdaoeijlifmaa.GlMarkBlock
set_option linter.unusedVariables false
set_option linter.unusedSimpArgs false
open Go.RowKit
open Go.Proofs.Ytpcdaoeijlifmaa.Rowed Go.Proofs.Ytpcdaoeijlifmaa.Turn Go.Proofs.Ytpcdaoeijlifmaa.Aid Go.Proofs.Ytpcdaoeijlifmaa.GoP Go.Proofs.Ytpcdaoeijlifmaa.GoM

def P (a_rows : (List ByteArray)) (k_1 : Int) : Option (Int × (List ByteArray)) :=
  bind2 (Go.Proofs.Ytpcdaoeijlifmaa.GlMarkStringS.P a_rows k_1) fun (t_5 : Int) (lt_5 : (List ByteArray)) =>
  some (t_5, lt_5)

set_option maxRecDepth 100000 in
set_option maxHeartbeats 2000000 in
theorem C (a_rows : (List ByteArray)) (k_1 : Int) (A0_0 : Option Addr) (c0_0 : Nat)  (b0 : Nat) (w : World) (M0_0 : Hid (w.ownsRow b0 9 1 (.slice A0_0 a_rows.length c0_0) a_rows.length (a_rows.map Value.string))) (N0_0 : Hid (a_rows.length ≤ 9223372036854775807))  {r : Int} {l_ : (List ByteArray)} (H : Hid (P a_rows k_1 = some (r, l_))) :
    Calls Try.prog 28 #[.agg #[.slice A0_0 a_rows.length c0_0], .int .i64 k_1] w (fun e w' => e = .returned (.int .i64 r) ∧ w'.ownsRow b0 9 1 (.slice A0_0 a_rows.length c0_0) a_rows.length (l_.map Value.string) ∧ l_.length = a_rows.length ∧ w.grownBy w' (Value.slice A0_0 a_rows.length c0_0).ownBlock) := by
  have HB := Lib.hid (Aid.grown_refl w (Value.slice A0_0 a_rows.length c0_0).ownBlock)
  unfold P at H
  have N0_0o := N0_0.out
  go_enter Try.func28, Try.ntmps28
  obtain ⟨w_a_0, hw_a_0⟩ : ∃ x, w.alloc (.cells #[.slice A0_0 a_rows.length c0_0] 43) = x := ⟨_, rfl⟩
  have bw_a_0 : Below w.heap.size w w_a_0 := by rw [← hw_a_0]; exact (Below.refl _ _).alloc (Nat.le_refl _) _
  have Da_0_io0 := Lib.hid (apart_fresh M0_0.out)
  have HBw_a_0 := Lib.hid (grown_below HB.out bw_a_0)
  replace M0_0 := Lib.hid (own_below M0_0.out bw_a_0)
  clear bw_a_0
  have ka_0_0 : w_a_0.cell? ⟨w.heap.size, 0, none⟩ = some (.slice A0_0 a_rows.length c0_0) := by rw [← hw_a_0]; exact box_new _ _ _ 0 _ rfl
  replace H := bind2_hid H
  obtain ⟨t_5, lt_5, qt_5, H⟩ := H
  go_wp2_with fail
  go_at_call 27
  refine (Go.Proofs.Ytpcdaoeijlifmaa.GlMarkStringS.C (a_rows) (k_1) A0_0 c0_0 b0 _   M0_0 (Lib.hid (own_max M0_0.out))   qt_5).mono ?_
  rintro e_t_5 wt_5 ⟨rfl, ot_5, nt_5, gt_5⟩
  have Pt_5 := Lib.hid ot_5
  have Gt_5 := Lib.hid gt_5
  replace nt_5 := Lib.hid nt_5
  clear ot_5 gt_5
  have HBwt_5 := Lib.hid (Aid.grown_tr HBw_a_0.out Gt_5.out)
  replace ka_0_0 := cell_other ka_0_0 Gt_5.out (Apart.symm Da_0_io0.out)
  clear M0_0 Gt_5
  cases ret_hid H
  go_wp2_with fail
  go_ret
  exact ⟨rfl, Pt_5.out, nt_5.out, HBwt_5.out⟩
end Go.Proofs.Ytpcdaoeijlifmaa.GlMarkBlock

/- loop.example/g01062/laws.markIntA2S as a plain function, and the contract of the program's: where the plain one has an answer, the program has it. Conditions: slices read as lists. -/
namespace Go.Proofs.Ytpcdaoeijlifmaa.GlMarkIntA2S
set_option linter.unusedVariables false
set_option linter.unusedSimpArgs false
open Go.RowKit
open Go.Proofs.Ytpcdaoeijlifmaa.Rowed Go.Proofs.Ytpcdaoeijlifmaa.Turn Go.Proofs.Ytpcdaoeijlifmaa.Aid Go.Proofs.Ytpcdaoeijlifmaa.GoP Go.Proofs.Ytpcdaoeijlifmaa.GoM

def l1 (k0 : Nat) (k1 : Nat) (s : (List Go.Proofs.Ytpcdaoeijlifmaa.PIntA2.IntA2) × Int) (nx1 bk1 : (List Go.Proofs.Ytpcdaoeijlifmaa.PIntA2.IntA2) × Int → Option (Int × (List Go.Proofs.Ytpcdaoeijlifmaa.PIntA2.IntA2))) : Option (Int × (List Go.Proofs.Ytpcdaoeijlifmaa.PIntA2.IntA2)) :=
  unp2 s fun a_0l1 k_1l1 =>
  Option.bind (idx a_0l1 (k0 : Int)) fun (yt_13 : Go.Proofs.Ytpcdaoeijlifmaa.PIntA2.IntA2) =>
  unIntA2 yt_13 fun (t_13_x0 : Int) (t_13_x1 : Int) =>
  Option.bind (idx [t_13_x0, t_13_x1] (k1 : Int)) fun (yt_14 : Int) =>
  letK (a_0l1.set k0 (Go.Proofs.Ytpcdaoeijlifmaa.PIntA2.IntA2.put (Go.Proofs.Ytpcdaoeijlifmaa.PIntA2.IntA2.mk t_13_x0 t_13_x1) (k1 : Int) k_1l1)) fun (l15_15 : (List Go.Proofs.Ytpcdaoeijlifmaa.PIntA2.IntA2)) =>
  letK (IntKind.i64.wrap (k_1l1 + 1)) fun (t_17 : Int) =>
  appK nx1 (l15_15, t_17)

def e1 (nx0 : ((List Go.Proofs.Ytpcdaoeijlifmaa.PIntA2.IntA2) × Int) → Option (Int × (List Go.Proofs.Ytpcdaoeijlifmaa.PIntA2.IntA2))) (s : (List Go.Proofs.Ytpcdaoeijlifmaa.PIntA2.IntA2) × Int) : Option (Int × (List Go.Proofs.Ytpcdaoeijlifmaa.PIntA2.IntA2)) :=
  unp2 s fun a_0l1 k_1l1 =>
  appK nx0 (a_0l1, k_1l1)

def l0  (k0 : Nat) (s : (List Go.Proofs.Ytpcdaoeijlifmaa.PIntA2.IntA2) × Int) (nx0 bk0 : (List Go.Proofs.Ytpcdaoeijlifmaa.PIntA2.IntA2) × Int → Option (Int × (List Go.Proofs.Ytpcdaoeijlifmaa.PIntA2.IntA2))) : Option (Int × (List Go.Proofs.Ytpcdaoeijlifmaa.PIntA2.IntA2)) :=
  unp2 s fun a_0l0 k_1l0 =>
  cntK (l1 k0) (2) 0 (a_0l0, k_1l0) (e1 nx0)

def e0  (s : (List Go.Proofs.Ytpcdaoeijlifmaa.PIntA2.IntA2) × Int) : Option (Int × (List Go.Proofs.Ytpcdaoeijlifmaa.PIntA2.IntA2)) :=
  unp2 s fun a_0l0 k_1l0 =>
  some (k_1l0, a_0l0)

def P (a : (List Go.Proofs.Ytpcdaoeijlifmaa.PIntA2.IntA2)) (k_1 : Int) : Option (Int × (List Go.Proofs.Ytpcdaoeijlifmaa.PIntA2.IntA2)) :=
  cntK (l0 ) (a.length) 0 (a, k_1) (e0 )

set_option maxRecDepth 100000 in
set_option maxHeartbeats 2000000 in
theorem C (a : (List Go.Proofs.Ytpcdaoeijlifmaa.PIntA2.IntA2)) (k_1 : Int) (A0 : Option Addr) (c0 : Nat)  (b0 : Nat) (w : World) (M0 : Hid (w.ownsRow b0 90 2 (.slice A0 a.length c0) a.length (Go.Proofs.Ytpcdaoeijlifmaa.PIntA2.flat a))) (N0 : Hid (a.length ≤ 9223372036854775807))  {r : Int} {l_ : (List Go.Proofs.Ytpcdaoeijlifmaa.PIntA2.IntA2)} (H : Hid (P a k_1 = some (r, l_))) :
    Calls Try.prog 29 #[.slice A0 a.length c0, .int .i64 k_1] w (fun e w' => e = .returned (.int .i64 r) ∧ w'.ownsRow b0 90 2 (.slice A0 a.length c0) a.length (Go.Proofs.Ytpcdaoeijlifmaa.PIntA2.flat l_) ∧ l_.length = a.length ∧ w.grownBy w' (Value.slice A0 a.length c0).ownBlock) := by
  have HB := Lib.hid (Aid.grown_refl w (Value.slice A0 a.length c0).ownBlock)
  unfold P at H
  have N0o := N0.out
  go_enter Try.func29, Try.ntmps29
  go_wp2_with fail
  have hb_0 : a.length ≤ 9223372036854775807 := own_max M0.out
  go_wp2_with fail
  go_loopg [5, 1] (a.length) (fun m_ v5_ v1_ wr => ∃ (k0 : Nat) (a_0l0 : (List Go.Proofs.Ytpcdaoeijlifmaa.PIntA2.IntA2)) (k_1l0 : Int), k0 + m_ = a.length ∧ v5_ = .int .i64 (k0 : Int) ∧ v1_ = .int .i64 k_1l0 ∧ Hid (cntK (l0 ) m_ k0 (a_0l0, k_1l0) (e0 ) = some (r, l_)) ∧ Hid (w.grownBy wr (Value.slice A0 a.length c0).ownBlock) ∧ Hid (wr.ownsRow b0 90 2 (.slice A0 a.length c0) a.length (Go.Proofs.Ytpcdaoeijlifmaa.PIntA2.flat a_0l0)) ∧ Hid (a_0l0.length = a.length))
  case atStart => exact ⟨0, _, _, by omega, rfl, rfl, H, HB, M0, Lib.hid (rfl)⟩
  case round =>
    obtain ⟨k0, a_0l0, k_1l0, hkm0, rfl, rfl, H, HBwr0, Oa_0l0, hna_0l0⟩ := hrel
    rename World => wr0
    cases gk with
    | zero =>
      obtain rfl : k0 = a.length := by omega
      have hc0 : decide (((a.length : Nat) : Int) < ((a.length : Nat) : Int)) = false := by simp
      replace H := cnt_zero H
      unfold e0 at H
      replace H := unp2_hid H
      cases ret_hid H
      go_wp2_with fail
      go_ret
      exact ⟨rfl, Oa_0l0.out, hna_0l0.out, HBwr0.out⟩
    | succ m0 =>
      have hlt0 : k0 < a.length := by omega
      have hc0 : decide ((k0 : Int) < ((a.length : Nat) : Int)) = true := by simp; omega
      replace H := cnt_succ H
      unfold l0 at H
      replace H := unp2_hid H
      go_wp2_with fail
      go_wp2_with fail
      go_loopg [6, 1] (2) (fun m_ v6_ v1_ wr => ∃ (k1 : Nat) (a_0l1 : (List Go.Proofs.Ytpcdaoeijlifmaa.PIntA2.IntA2)) (k_1l1 : Int), k1 + m_ = 2 ∧ v6_ = .int .i64 (k1 : Int) ∧ v1_ = .int .i64 k_1l1 ∧ Hid (cntK (l1 k0) m_ k1 (a_0l1, k_1l1) (e1 (fun s' => cntK (l0 ) m0 (k0 + 1) s' (e0 ))) = some (r, l_)) ∧ Hid (w.grownBy wr (Value.slice A0 a.length c0).ownBlock) ∧ Hid (wr.ownsRow b0 90 2 (.slice A0 a.length c0) a.length (Go.Proofs.Ytpcdaoeijlifmaa.PIntA2.flat a_0l1)) ∧ Hid (a_0l1.length = a.length))
      case atStart => exact ⟨0, _, _, by omega, rfl, rfl, H, HBwr0, Oa_0l0, Lib.hid (hna_0l0.out)⟩
      case round =>
        obtain ⟨k1, a_0l1, k_1l1, hkm1, rfl, rfl, H, HBwr1, Oa_0l1, hna_0l1⟩ := hrel
        rename World => wr1
        cases gk with
        | zero =>
          obtain rfl : k1 = 2 := by omega
          have hc1 : decide (((2 : Nat) : Int) < ((2 : Nat) : Int)) = false := by simp
          replace H := cnt_zero H
          unfold e1 at H
          replace H := unp2_hid H
          replace H := app_hid H
          go_wp2_with fail
          go_roundg m0
          case measure => omega
          case rel => exact ⟨k0 + 1, _, _, by omega, by go_num, rfl, H, HBwr1, Oa_0l1, Lib.hid (hna_0l1.out)⟩
        | succ m1 =>
          have hlt1 : k1 < 2 := by omega
          have hc1 : decide ((k1 : Int) < ((2 : Nat) : Int)) = true := by simp; omega
          replace H := cnt_succ H
          unfold l1 at H
          replace H := unp2_hid H
          replace H := idx_hid H
          obtain ⟨nt_13, yt_13, et_13, lt_13, gt_13, H⟩ := H
          obtain rfl : k0 = nt_13 := by omega
          clear et_13
          obtain ⟨t_13_x0, t_13_x1⟩ := yt_13
          replace H := unIntA2_hid H
          have hqt_13 := hna_0l1.out
          obtain ⟨qt_13, Qt_13⟩ := own_some Oa_0l1.out (by omega)
          subst Qt_13
          obtain ⟨ab_t_13, ao_t_13, zt_13, At_13, z_t_13, ct_13_0, ct_13_1⟩ := Go.Proofs.Ytpcdaoeijlifmaa.OIntA2.at_ (own_cells Oa_0l1.out) (k := k0) (by omega)
          obtain rfl := Option.some.inj (gt_13.out.symm.trans z_t_13)
          simp only [Option.some.injEq, Addr.mk.injEq] at At_13
          obtain ⟨rfl, rfl, _⟩ := At_13
          clear z_t_13
          simp only [Nat.zero_add] at ct_13_0 ct_13_1
          have b0t_13 : (0 : Int) ≤ (k0 : Int) := by omega
          have b1t_13 : (k0 : Int) < ((a.length : Nat) : Int) := by omega
          have b2t_13 : ((k0 : Int)).toNat = k0 := by omega
          clear hqt_13
          replace H := idx_hid H
          obtain ⟨nt_14, yt_14, et_14, lt_14, gt_14, H⟩ := H
          obtain rfl : k1 = nt_14 := by omega
          clear et_14
          have b0t_14 : (0 : Int) ≤ (k1 : Int) := by omega
          have b1t_14 : (k1 : Int) < (((2 : Nat) : Nat) : Int) := by have h_ : k1 < 2 := lt_14; omega
          have b3t_14 : k1 < 2 := lt_14
          have b4t_14 : (k1 : Int) < (2 : Int) := by omega
          have b2t_14 : ((k1 : Int)).toNat = k1 := by omega
          have cat_14 := Go.Proofs.Ytpcdaoeijlifmaa.PIntA2.cell_at ct_13_0 ct_13_1 gt_14.out
          replace H := let_hid H
          obtain ⟨l15_15, hl15_15, H⟩ := H
          obtain ⟨wl15_15, hwl15_15⟩ : ∃ x, (wr1).setCell ⟨qt_13, k0 * 2 + k1, none⟩ (.int .i64 k_1l1) = x := ⟨_, rfl⟩
          have z0l15_15 := Oa_0l1.out.frozenAt (k0 * 2 + k1)
          have Sl15_15 := Lib.hid (own_stores [(k0 * 2 + k1, .int .i64 k_1l1)] Oa_0l1.out)
          have nl15_15 : Hid (l15_15.length = a.length) := Lib.hid (by rw [← hl15_15, List.length_set]; exact hna_0l1.out)
          have Pl15_15 : Hid (wl15_15.ownsRow b0 90 2 (.slice (some ⟨qt_13, 0, none⟩) a.length c0) a.length (Go.Proofs.Ytpcdaoeijlifmaa.PIntA2.flat l15_15)) := Lib.hid (by have es_ := set_self gt_13.out; have e0_ := flat_set Go.Proofs.Ytpcdaoeijlifmaa.PIntA2.IntA2.cells 2 (fun _ => rfl) a_0l1 (k0) k1 (Go.Proofs.Ytpcdaoeijlifmaa.PIntA2.IntA2.mk t_13_x0 t_13_x1) _ (.int .i64 k_1l1) lt_13 (by omega) (Go.Proofs.Ytpcdaoeijlifmaa.PIntA2.cells_put _ (by omega) _); rw [es_] at e0_; have e_ : ([(k0 * 2 + k1, .int .i64 k_1l1)] : List (Nat × Value)).foldl (fun xs p => xs.set p.1 p.2) (Go.Proofs.Ytpcdaoeijlifmaa.PIntA2.flat a_0l1) = (Go.Proofs.Ytpcdaoeijlifmaa.PIntA2.flat l15_15) := (by rw [← hl15_15]; show _ = List.flatMap Go.Proofs.Ytpcdaoeijlifmaa.PIntA2.IntA2.cells _; rw [← e0_]; first | done | rfl); rw [← hwl15_15, ← e_]; exact Sl15_15.out.1)
          have Gl15_15 : Hid (wr1.grownBy wl15_15 (Value.slice (some ⟨qt_13, 0, none⟩) a.length c0).ownBlock) := Lib.hid (by rw [← hwl15_15]; exact Sl15_15.out.2)
          have HBwl15_15 := Lib.hid (Aid.grown_tr HBwr1.out Gl15_15.out)
          have hhl15_15 := Lib.hid hl15_15
          clear hl15_15 Sl15_15
          clear Oa_0l1 Gl15_15
          replace H := let_hid H
          obtain ⟨t_17, ht_17, H⟩ := H
          replace H := app_hid H
          go_wp2_with fail
          clear z0l15_15 ct_13_0 ct_13_1 cat_14
          go_roundg m1
          case measure => omega
          case rel => exact ⟨k1 + 1, _, _, by omega, by go_num, rfl, H, HBwl15_15, Pl15_15, Lib.hid (nl15_15.out)⟩
end Go.Proofs.Ytpcdaoeijlifmaa.GlMarkIntA2S

/- loop.example/g01062/laws.heldIntA2S as a plain function, and the contract of the program's: where the plain one has an answer, the program has it. Conditions: slices read as lists. -/
namespace Go.Proofs.Ytpcdaoeijlifmaa.GlHeldIntA2S
set_option linter.unusedVariables false
set_option linter.unusedSimpArgs false
open Go.RowKit
open Go.Proofs.Ytpcdaoeijlifmaa.Rowed Go.Proofs.Ytpcdaoeijlifmaa.Turn Go.Proofs.Ytpcdaoeijlifmaa.Aid Go.Proofs.Ytpcdaoeijlifmaa.GoP Go.Proofs.Ytpcdaoeijlifmaa.GoM

def l1 (a : (List Go.Proofs.Ytpcdaoeijlifmaa.PIntA2.IntA2)) (k0 : Nat) (k1 : Nat) (s : Int) (nx1 bk1 : Int → Option (Int)) : Option (Int) :=
  letK s fun k_1l1 =>
  Option.bind (idx a (k0 : Int)) fun (yt_12 : Go.Proofs.Ytpcdaoeijlifmaa.PIntA2.IntA2) =>
  unIntA2 yt_12 fun (t_12_x0 : Int) (t_12_x1 : Int) =>
  Option.bind (idx [t_12_x0, t_12_x1] (k1 : Int)) fun (yt_13 : Int) =>
  letK (yt_13 != k_1l1) fun (t_16 : Bool) =>
  iteK t_16
  (some (-1))
  (letK (IntKind.i64.wrap (k_1l1 + 1)) fun (t_19 : Int) =>
  appK nx1 (t_19))

def e1 (nx0 : (Int) → Option (Int)) (s : Int) : Option (Int) :=
  letK s fun k_1l1 =>
  appK nx0 (k_1l1)

def l0 (a : (List Go.Proofs.Ytpcdaoeijlifmaa.PIntA2.IntA2)) (k0 : Nat) (s : Int) (nx0 bk0 : Int → Option (Int)) : Option (Int) :=
  letK s fun k_1l0 =>
  cntK (l1 a k0) (2) 0 (k_1l0) (e1 nx0)

def e0  (s : Int) : Option (Int) :=
  letK s fun k_1l0 =>
  some k_1l0

def P (a : (List Go.Proofs.Ytpcdaoeijlifmaa.PIntA2.IntA2)) (k_1 : Int) : Option (Int) :=
  cntK (l0 a) (a.length) 0 (k_1) (e0 )

set_option maxRecDepth 100000 in
set_option maxHeartbeats 2000000 in
theorem C (a : (List Go.Proofs.Ytpcdaoeijlifmaa.PIntA2.IntA2)) (k_1 : Int) (A0 : Option Addr) (c0 : Nat)  (w : World) (M0 : Hid (Cells w 2 A0 a.length (Go.Proofs.Ytpcdaoeijlifmaa.PIntA2.flat a))) (N0 : Hid (a.length ≤ 9223372036854775807))  {r : Int} (H : Hid (P a k_1 = some r)) :
    Calls Try.prog 30 #[.slice A0 a.length c0, .int .i64 k_1] w (Gives (.int .i64 r) w) := by
  have HB := Lib.hid (Below.refl w.heap.size w)
  unfold P at H
  have N0o := N0.out
  go_enter Try.func30, Try.ntmps30
  go_wp2_with fail
  go_loopg [5, 1] (a.length) (fun m_ v5_ v1_ wr => ∃ (k0 : Nat) (k_1l0 : Int), k0 + m_ = a.length ∧ v5_ = .int .i64 (k0 : Int) ∧ v1_ = .int .i64 k_1l0 ∧ Hid (cntK (l0 a) m_ k0 (k_1l0) (e0 ) = some r) ∧ Hid (Below w.heap.size w wr))
  case atStart => exact ⟨0, _, by omega, rfl, rfl, H, HB⟩
  case round =>
    obtain ⟨k0, k_1l0, hkm0, rfl, rfl, H, HBwr0⟩ := hrel
    rename World => wr0
    cases gk with
    | zero =>
      obtain rfl : k0 = a.length := by omega
      have hc0 : decide (((a.length : Nat) : Int) < ((a.length : Nat) : Int)) = false := by simp
      replace H := cnt_zero H
      unfold e0 at H
      replace H := let_hid H
      obtain ⟨_, rfl, H⟩ := H
      obtain rfl := ret_hid H
      go_wp2_with fail
      go_ret
      exact ⟨rfl, HBwr0.out⟩
    | succ m0 =>
      have hlt0 : k0 < a.length := by omega
      have hc0 : decide ((k0 : Int) < ((a.length : Nat) : Int)) = true := by simp; omega
      replace H := cnt_succ H
      unfold l0 at H
      replace H := let_hid H
      obtain ⟨_, rfl, H⟩ := H
      go_wp2_with fail
      go_loopg [6, 1] (2) (fun m_ v6_ v1_ wr => ∃ (k1 : Nat) (k_1l1 : Int), k1 + m_ = 2 ∧ v6_ = .int .i64 (k1 : Int) ∧ v1_ = .int .i64 k_1l1 ∧ Hid (cntK (l1 a k0) m_ k1 (k_1l1) (e1 (fun s' => cntK (l0 a) m0 (k0 + 1) s' (e0 ))) = some r) ∧ Hid (Below w.heap.size w wr))
      case atStart => exact ⟨0, _, by omega, rfl, rfl, H, HBwr0⟩
      case round =>
        obtain ⟨k1, k_1l1, hkm1, rfl, rfl, H, HBwr1⟩ := hrel
        rename World => wr1
        cases gk with
        | zero =>
          obtain rfl : k1 = 2 := by omega
          have hc1 : decide (((2 : Nat) : Int) < ((2 : Nat) : Int)) = false := by simp
          replace H := cnt_zero H
          unfold e1 at H
          replace H := let_hid H
          obtain ⟨_, rfl, H⟩ := H
          replace H := app_hid H
          go_wp2_with fail
          go_roundg m0
          case measure => omega
          case rel => exact ⟨k0 + 1, _, by omega, by go_num, rfl, H, HBwr1⟩
        | succ m1 =>
          have hlt1 : k1 < 2 := by omega
          have hc1 : decide ((k1 : Int) < ((2 : Nat) : Int)) = true := by simp; omega
          replace H := cnt_succ H
          unfold l1 at H
          replace H := let_hid H
          obtain ⟨_, rfl, H⟩ := H
          replace H := idx_hid H
          obtain ⟨nt_12, yt_12, et_12, lt_12, gt_12, H⟩ := H
          obtain rfl : k0 = nt_12 := by omega
          clear et_12
          obtain ⟨t_12_x0, t_12_x1⟩ := yt_12
          replace H := unIntA2_hid H
          obtain ⟨ab_t_12, ao_t_12, zt_12, At_12, z_t_12, ct_12_0, ct_12_1⟩ := Go.Proofs.Ytpcdaoeijlifmaa.OIntA2.at_ M0.out lt_12
          obtain rfl := Option.some.inj (gt_12.out.symm.trans z_t_12)
          subst At_12
          have ltt_12 := cell_lt ct_12_0
          replace ct_12_0 := cell_below HBwr1.out ct_12_0
          replace ct_12_1 := cell_below HBwr1.out ct_12_1
          clear z_t_12
          have b0t_12 : (0 : Int) ≤ (k0 : Int) := by omega
          have b1t_12 : (k0 : Int) < ((a.length : Nat) : Int) := by omega
          have b2t_12 : ((k0 : Int)).toNat = k0 := by omega
          replace H := idx_hid H
          obtain ⟨nt_13, yt_13, et_13, lt_13, gt_13, H⟩ := H
          obtain rfl : k1 = nt_13 := by omega
          clear et_13
          have b0t_13 : (0 : Int) ≤ (k1 : Int) := by omega
          have b1t_13 : (k1 : Int) < (((2 : Nat) : Nat) : Int) := by have h_ : k1 < 2 := lt_13; omega
          have b3t_13 : k1 < 2 := lt_13
          have b4t_13 : (k1 : Int) < (2 : Int) := by omega
          have b2t_13 : ((k1 : Int)).toNat = k1 := by omega
          have cat_13 := Go.Proofs.Ytpcdaoeijlifmaa.PIntA2.cell_at ct_12_0 ct_12_1 gt_13.out
          replace H := let_hid H
          obtain ⟨t_16, ht_16, H⟩ := H
          cases t_16 with
          | false =>
            replace H := ite_f H
            replace H := let_hid H
            obtain ⟨t_19, ht_19, H⟩ := H
            replace H := app_hid H
            go_wp2_with fail
            go_roundg m1
            case measure => omega
            case rel => exact ⟨k1 + 1, _, by omega, by go_num, rfl, H, HBwr1⟩
          | true =>
            replace H := ite_t H
            obtain rfl := ret_hid H
            go_wp2_with fail
            go_ret
            exact ⟨rfl, HBwr1.out⟩
end Go.Proofs.Ytpcdaoeijlifmaa.GlHeldIntA2S

/- loop.example/g01062/laws.FnExactPlacesFor as a plain function, and the contract of the program's: where the plain one has an answer, the program has it. Conditions: slices read as lists. -/
namespace Go.Proofs.Ytpcdaoeijlifmaa.GlFnExactPlacesFor
set_option linter.unusedVariables false
set_option linter.unusedSimpArgs false
open Go.RowKit
open Go.Proofs.Ytpcdaoeijlifmaa.Rowed Go.Proofs.Ytpcdaoeijlifmaa.Turn Go.Proofs.Ytpcdaoeijlifmaa.Aid Go.Proofs.Ytpcdaoeijlifmaa.GoP Go.Proofs.Ytpcdaoeijlifmaa.GoM

def P (fuel : Nat) (aSheet : (List ByteArray)) (aB_rows : (List ByteArray)) : Option (Bool) :=
  Option.bind (Go.Proofs.Ytpcdaoeijlifmaa.GlSzStringS.P aSheet 1048576) fun (t_5 : Int) =>
  letK (decide (t_5 < 0)) fun (t_8 : Bool) =>
  iteK t_8
  (some true)
  (Option.bind (Go.Proofs.Ytpcdaoeijlifmaa.GlSzBlock.P aB_rows t_5) fun (t_12 : Int) =>
  letK (decide (t_12 < 0)) fun (t_15 : Bool) =>
  iteK t_15
  (some true)
  (Option.bind (Go.Proofs.Ytpcdaoeijlifmaa.GlToStringS.P aSheet) fun (t_18 : (List ByteArray)) =>
  Option.bind (Go.Proofs.Ytpcdaoeijlifmaa.GlToBlock.P aB_rows) fun (t_20 : Go.Proofs.Ytpcdaoeijlifmaa.PBlock.Block) =>
  unBlock t_20 fun (t_20_rows : (List ByteArray)) =>
  bind2 (Go.Proofs.Ytpcdaoeijlifmaa.GsPlacesFor.P fuel t_18 t_20_rows) fun (t_21a : (List Go.Proofs.Ytpcdaoeijlifmaa.PIntA2.IntA2)) (t_21b : Bool) =>
  Option.bind (Go.Proofs.Ytpcdaoeijlifmaa.GlToStringS.P aSheet) fun (t_28 : (List ByteArray)) =>
  Option.bind (Go.Proofs.Ytpcdaoeijlifmaa.GlToBlock.P aB_rows) fun (t_31 : Go.Proofs.Ytpcdaoeijlifmaa.PBlock.Block) =>
  unBlock t_31 fun (t_31_rows : (List ByteArray)) =>
  bind2 (Go.Proofs.Ytpcdaoeijlifmaa.GiPlacesFor.P t_28 t_31_rows) fun (t_36a : (List Go.Proofs.Ytpcdaoeijlifmaa.PIntA2.IntA2)) (t_36b : Bool) =>
  Option.bind (Go.Proofs.Ytpcdaoeijlifmaa.GlEqIntA2S.P t_36a t_21a) fun (t_44 : Bool) =>
  letK (!t_44) fun (t_45 : Bool) =>
  joinK (fun (t_50 : Bool) =>
  iteK t_50
  (some false)
  (Option.bind (Go.Proofs.Ytpcdaoeijlifmaa.GlToStringS.P aSheet) fun (t_54 : (List ByteArray)) =>
  Option.bind (Go.Proofs.Ytpcdaoeijlifmaa.GlEqStringS.P t_28 t_54) fun (t_55 : Bool) =>
  letK (!t_55) fun (t_56 : Bool) =>
  iteK t_56
  (some false)
  (Option.bind (Go.Proofs.Ytpcdaoeijlifmaa.GlToBlock.P aB_rows) fun (t_60 : Go.Proofs.Ytpcdaoeijlifmaa.PBlock.Block) =>
  unBlock t_60 fun (t_60_rows : (List ByteArray)) =>
  Option.bind (Go.Proofs.Ytpcdaoeijlifmaa.GlEqBlock.P t_31_rows t_60_rows) fun (t_61 : Bool) =>
  letK (!t_61) fun (t_62 : Bool) =>
  iteK t_62
  (some false)
  (bind2 (Go.Proofs.Ytpcdaoeijlifmaa.GlMarkStringS.P t_28 1) fun (t_67 : Int) (lt_67 : (List ByteArray)) =>
  bind2 (Go.Proofs.Ytpcdaoeijlifmaa.GlMarkBlock.P t_31_rows t_67) fun (t_71 : Int) (lt_71 : (List ByteArray)) =>
  letK (decide (t_71 < 0)) fun (t_74 : Bool) =>
  joinK (fun (t_80 : Bool) =>
  joinK (fun (t_85 : Bool) =>
  iteK t_85
  (some false)
  (bind2 (Go.Proofs.Ytpcdaoeijlifmaa.GlMarkIntA2S.P t_36a 1) fun (t_90 : Int) (lt_90 : (List Go.Proofs.Ytpcdaoeijlifmaa.PIntA2.IntA2)) =>
  Option.bind (Go.Proofs.Ytpcdaoeijlifmaa.GlHeldIntA2S.P lt_90 1) fun (t_95 : Int) =>
  letK (decide (t_95 < 0)) fun (t_98 : Bool) =>
  iteK t_98
  (some false)
  (letK (t_95 != t_90) fun (t_102 : Bool) =>
  iteK t_102
  (some false)
  (Option.bind (Go.Proofs.Ytpcdaoeijlifmaa.GlToStringS.P aSheet) fun (t_105 : (List ByteArray)) =>
  Option.bind (Go.Proofs.Ytpcdaoeijlifmaa.GlToBlock.P aB_rows) fun (t_107 : Go.Proofs.Ytpcdaoeijlifmaa.PBlock.Block) =>
  unBlock t_107 fun (t_107_rows : (List ByteArray)) =>
  bind2 (Go.Proofs.Ytpcdaoeijlifmaa.GiPlacesFor.P t_105 t_107_rows) fun (t_108a : (List Go.Proofs.Ytpcdaoeijlifmaa.PIntA2.IntA2)) (t_108b : Bool) =>
  Option.bind (Go.Proofs.Ytpcdaoeijlifmaa.GlEqIntA2S.P t_108a t_21a) fun (t_116 : Bool) =>
  letK (!t_116) fun (t_117 : Bool) =>
  joinK (fun (t_122 : Bool) =>
  iteK t_122
  (some false)
  (Option.bind (Go.Proofs.Ytpcdaoeijlifmaa.GlHeldIntA2S.P lt_90 1) fun (t_127 : Int) =>
  letK (decide (t_127 < 0)) fun (t_130 : Bool) =>
  iteK t_130
  (some false)
  (letK (t_127 != t_90) fun (t_134 : Bool) =>
  iteK t_134
  (some false)
  (some true)))) fun jt_122 => iteK t_117 (appK jt_122 true) (letK (!(t_108b == t_21b)) fun (t_121 : Bool) =>
  appK jt_122 t_121))))) fun jt_85 => iteK t_80 (appK jt_85 true) (letK (!(t_36b == t_21b)) fun (t_84 : Bool) =>
  appK jt_85 t_84)) fun jt_80 => iteK t_74 (appK jt_80 true) (Option.bind (Go.Proofs.Ytpcdaoeijlifmaa.GlEqIntA2S.P t_36a t_21a) fun (t_78 : Bool) =>
  letK (!t_78) fun (t_79 : Bool) =>
  appK jt_80 t_79))))) fun jt_50 => iteK t_45 (appK jt_50 true) (letK (!(t_36b == t_21b)) fun (t_49 : Bool) =>
  appK jt_50 t_49)))

set_option maxRecDepth 100000 in
set_option maxHeartbeats 2000000 in
theorem C (fuel : Nat) (aSheet : (List ByteArray)) (aB_rows : (List ByteArray)) (A0 : Option Addr) (c0 : Nat) (A1_0 : Option Addr) (c1_0 : Nat)  (w : World) (M0 : Hid (Cells w 1 A0 aSheet.length (aSheet.map Value.string))) (N0 : Hid (aSheet.length ≤ 9223372036854775807)) (M1_0 : Hid (Cells w 1 A1_0 aB_rows.length (aB_rows.map Value.string))) (N1_0 : Hid (aB_rows.length ≤ 9223372036854775807))  {r : Bool} (H : Hid (P fuel aSheet aB_rows = some r)) :
    Calls Try.prog 4 #[.slice A0 aSheet.length c0, .agg #[.slice A1_0 aB_rows.length c1_0]] w (Gives (.bool r) w) := by
  have HB := Lib.hid (Below.refl w.heap.size w)
  unfold P at H
  have N0o := N0.out
  have N1_0o := N1_0.out
  go_enter Try.func4, Try.ntmps4
  obtain ⟨w_aB_0, hw_aB_0⟩ : ∃ x, w.alloc (.cells #[.slice A1_0 aB_rows.length c1_0] 36) = x := ⟨_, rfl⟩
  have bw_aB_0 : Below w.heap.size w w_aB_0 := by rw [← hw_aB_0]; exact (Below.refl _ _).alloc (Nat.le_refl _) _
  have HBw_aB_0 := Lib.hid (Below.step HB.out bw_aB_0)
  clear bw_aB_0
  have kaB_0_0 : w_aB_0.cell? ⟨w.heap.size, 0, none⟩ = some (.slice A1_0 aB_rows.length c1_0) := by rw [← hw_aB_0]; exact box_new _ _ _ 0 _ rfl
  replace H := bind_hid H
  obtain ⟨t_5, qt_5, H⟩ := H
  go_wp2_with fail
  go_at_call 18
  refine (Go.Proofs.Ytpcdaoeijlifmaa.GlSzStringS.C (aSheet) (1048576) A0 c0 _   (Lib.hid (Cells.below M0.out HBw_aB_0.out)) N0 qt_5).mono ?_
  rintro e_t_5 wt_5 ⟨rfl, bt_5⟩
  have HBwt_5 := Lib.hid (Below.step HBw_aB_0.out bt_5)
  replace kaB_0_0 := cell_below bt_5 kaB_0_0
  clear bt_5
  replace H := let_hid H
  obtain ⟨t_8, ht_8, H⟩ := H
  cases t_8 with
  | false =>
    replace H := ite_f H
    replace H := bind_hid H
    obtain ⟨t_12, qt_12, H⟩ := H
    go_wp2_with fail
    go_at_call 19
    refine (Go.Proofs.Ytpcdaoeijlifmaa.GlSzBlock.C (aB_rows) (t_5) A1_0 c1_0 _   (Lib.hid (Cells.below M1_0.out HBwt_5.out)) N1_0 qt_12).mono ?_
    rintro e_t_12 wt_12 ⟨rfl, bt_12⟩
    have HBwt_12 := Lib.hid (Below.step HBwt_5.out bt_12)
    replace kaB_0_0 := cell_below bt_12 kaB_0_0
    clear bt_12
    replace H := let_hid H
    obtain ⟨t_15, ht_15, H⟩ := H
    cases t_15 with
    | false =>
      replace H := ite_f H
      go_wp2_with fail
      have bd8 : Below wt_12.heap.size wt_12 wt_12.drew := (Below.refl _ _).drew
      have HBwt_12.drew := Lib.hid (Below.step HBwt_12.out bd8)
      replace kaB_0_0 := cell_below bd8 kaB_0_0
      clear bd8
      replace H := bind_hid H
      obtain ⟨t_18, qt_18, H⟩ := H
      replace H := bind_hid H
      obtain ⟨t_20, qt_20, H⟩ := H
      obtain ⟨t_20_rows⟩ := t_20
      replace H := unBlock_hid H
      replace H := bind2_hid H
      obtain ⟨t_21a, t_21b, qt_21, H⟩ := H
      go_region_held3 (fun w' => w'.cell? ⟨w.heap.size, 0, none⟩ = some (.slice A1_0 aB_rows.length c1_0)) (first | exact kaB_0_0)
          (first
            | (go_at_call 21
               refine (Go.Proofs.Ytpcdaoeijlifmaa.GlToStringS.C (aSheet) A0 c0 _   (Lib.hid (Cells.below M0.out HBwt_12.drew.out)) N0 qt_18).mono ?_
               rintro e_t_18 wt_18 ⟨At_18, ct_18, rfl, ot_18, bt_18⟩
               have Dt_18_aB_0 := Lib.hid (apart_callbox ot_18 kaB_0_0)
               have Ot_18 := Lib.hid (own_lower ot_18 HBwt_12.drew.out.size)
               clear ot_18
               have HBwt_18 := Lib.hid (Below.step HBwt_12.drew.out bt_18)
               replace kaB_0_0 := cell_below bt_18 kaB_0_0
               clear bt_18
               clear qt_18)
            | (go_at_call 22
               refine (Go.Proofs.Ytpcdaoeijlifmaa.GlToBlock.C (aB_rows) A1_0 c1_0 _   (Lib.hid (Cells.below M1_0.out HBwt_18.out)) N1_0 qt_20).mono ?_
               rintro e_t_20 wt_20 ⟨At_20_rows, ct_20_rows, rfl, ot_20_rows, bt_20⟩
               have Dt_20_rows_t_18 := Lib.hid (apart_call ot_20_rows Ot_18.out)
               have Dt_20_rows_aB_0 := Lib.hid (apart_callbox ot_20_rows kaB_0_0)
               have Ot_20_rows := Lib.hid (own_lower ot_20_rows HBwt_18.out.size)
               clear ot_20_rows
               have HBwt_20 := Lib.hid (Below.step HBwt_18.out bt_20)
               replace kaB_0_0 := cell_below bt_20 kaB_0_0
               replace Ot_18 := Lib.hid (own_below Ot_18.out bt_20)
               clear bt_20
               clear qt_20)
            | (go_at_call 20
               refine (Go.Proofs.Ytpcdaoeijlifmaa.GsPlacesFor.C fuel (t_18) (t_20_rows) At_18 ct_18 At_20_rows ct_20_rows _   (Lib.hid (own_cells Ot_18.out)) (Lib.hid (own_max Ot_18.out)) (Lib.hid (own_cells Ot_20_rows.out)) (Lib.hid (own_max Ot_20_rows.out)) qt_21).mono ?_
               rintro e_t_21 wt_21 ⟨At_21a, ct_21a, rfl, ot_21a, bt_21⟩
               have Dt_21a_t_18 := Lib.hid (apart_call ot_21a Ot_18.out)
               have Dt_21a_t_20_rows := Lib.hid (apart_call ot_21a Ot_20_rows.out)
               have Dt_21a_aB_0 := Lib.hid (apart_callbox ot_21a kaB_0_0)
               have Ot_21a := Lib.hid (own_lower ot_21a HBwt_20.out.size)
               clear ot_21a
               have HBwt_21 := Lib.hid (Below.step HBwt_20.out bt_21)
               replace kaB_0_0 := cell_below bt_21 kaB_0_0
               replace Ot_18 := Lib.hid (own_below Ot_18.out bt_21)
               replace Ot_20_rows := Lib.hid (own_below Ot_20_rows.out bt_21)
               clear bt_21
               clear qt_21))
      replace H := bind_hid H
      obtain ⟨t_28, qt_28, H⟩ := H
      go_wp2_with fail
      go_at_call 21
      refine (Go.Proofs.Ytpcdaoeijlifmaa.GlToStringS.C (aSheet) A0 c0 _   (Lib.hid (Cells.below M0.out HBwt_21.out)) N0 qt_28).mono ?_
      rintro e_t_28 wt_28 ⟨At_28, ct_28, rfl, ot_28, bt_28⟩
      have Dt_28_t_18 := Lib.hid (apart_call ot_28 Ot_18.out)
      have Dt_28_t_20_rows := Lib.hid (apart_call ot_28 Ot_20_rows.out)
      have Dt_28_t_21a := Lib.hid (apart_call ot_28 Ot_21a.out)
      have Dt_28_aB_0 := Lib.hid (apart_callbox ot_28 kaB_0_0)
      have Ot_28 := Lib.hid (own_lower ot_28 HBwt_21.out.size)
      clear ot_28
      have HBwt_28 := Lib.hid (Below.step HBwt_21.out bt_28)
      replace kaB_0_0 := cell_below bt_28 kaB_0_0
      replace Ot_18 := Lib.hid (own_below Ot_18.out bt_28)
      replace Ot_20_rows := Lib.hid (own_below Ot_20_rows.out bt_28)
      replace Ot_21a := Lib.hid (own_below Ot_21a.out bt_28)
      clear bt_28
      replace H := bind_hid H
      obtain ⟨t_31, qt_31, H⟩ := H
      obtain ⟨t_31_rows⟩ := t_31
      replace H := unBlock_hid H
      go_wp2_with fail
      go_at_call 22
      refine (Go.Proofs.Ytpcdaoeijlifmaa.GlToBlock.C (aB_rows) A1_0 c1_0 _   (Lib.hid (Cells.below M1_0.out HBwt_28.out)) N1_0 qt_31).mono ?_
      rintro e_t_31 wt_31 ⟨At_31_rows, ct_31_rows, rfl, ot_31_rows, bt_31⟩
      have Dt_31_rows_t_18 := Lib.hid (apart_call ot_31_rows Ot_18.out)
      have Dt_31_rows_t_20_rows := Lib.hid (apart_call ot_31_rows Ot_20_rows.out)
      have Dt_31_rows_t_21a := Lib.hid (apart_call ot_31_rows Ot_21a.out)
      have Dt_31_rows_t_28 := Lib.hid (apart_call ot_31_rows Ot_28.out)
      have Dt_31_rows_aB_0 := Lib.hid (apart_callbox ot_31_rows kaB_0_0)
      have Ot_31_rows := Lib.hid (own_lower ot_31_rows HBwt_28.out.size)
      clear ot_31_rows
      have HBwt_31 := Lib.hid (Below.step HBwt_28.out bt_31)
      replace kaB_0_0 := cell_below bt_31 kaB_0_0
      replace Ot_18 := Lib.hid (own_below Ot_18.out bt_31)
      replace Ot_20_rows := Lib.hid (own_below Ot_20_rows.out bt_31)
      replace Ot_21a := Lib.hid (own_below Ot_21a.out bt_31)
      replace Ot_28 := Lib.hid (own_below Ot_28.out bt_31)
      clear bt_31
      obtain ⟨w_x1_32, hw_x1_32⟩ : ∃ x, wt_31.alloc (.cells #[.slice At_31_rows t_31_rows.length ct_31_rows] 43) = x := ⟨_, rfl⟩
      have bw_x1_32 : Below wt_31.heap.size wt_31 w_x1_32 := by rw [← hw_x1_32]; exact (Below.refl _ _).alloc (Nat.le_refl _) _
      have Dx1_32_t_18 := Lib.hid (apart_fresh Ot_18.out)
      have Dx1_32_t_20_rows := Lib.hid (apart_fresh Ot_20_rows.out)
      have Dx1_32_t_21a := Lib.hid (apart_fresh Ot_21a.out)
      have Dx1_32_t_28 := Lib.hid (apart_fresh Ot_28.out)
      have Dx1_32_t_31_rows := Lib.hid (apart_fresh Ot_31_rows.out)
      have HBw_x1_32 := Lib.hid (Below.step HBwt_31.out bw_x1_32)
      have kaB_0_0__26 := cell_below bw_x1_32 kaB_0_0
      replace Ot_18 := Lib.hid (own_below Ot_18.out bw_x1_32)
      replace Ot_20_rows := Lib.hid (own_below Ot_20_rows.out bw_x1_32)
      replace Ot_21a := Lib.hid (own_below Ot_21a.out bw_x1_32)
      replace Ot_28 := Lib.hid (own_below Ot_28.out bw_x1_32)
      replace Ot_31_rows := Lib.hid (own_below Ot_31_rows.out bw_x1_32)
      clear bw_x1_32
      have kx1_32_0 : w_x1_32.cell? ⟨wt_31.heap.size, 0, none⟩ = some (.slice At_31_rows t_31_rows.length ct_31_rows) := by rw [← hw_x1_32]; exact box_new _ _ _ 0 _ rfl
      replace H := bind2_hid H
      obtain ⟨t_36a, t_36b, qt_36, H⟩ := H
      go_wp2_with fail
      clear kaB_0_0
      go_at_call 23
      refine (Go.Proofs.Ytpcdaoeijlifmaa.GiPlacesFor.C (t_28) (t_31_rows) At_28 ct_28 At_31_rows ct_31_rows _   (Lib.hid (own_cells Ot_28.out)) (Lib.hid (own_max Ot_28.out)) (Lib.hid (own_cells Ot_31_rows.out)) (Lib.hid (own_max Ot_31_rows.out)) qt_36).mono ?_
      rintro e_t_36 wt_36 ⟨At_36a, ct_36a, rfl, ot_36a, bt_36⟩
      have Dt_36a_t_18 := Lib.hid (apart_call ot_36a Ot_18.out)
      have Dt_36a_t_20_rows := Lib.hid (apart_call ot_36a Ot_20_rows.out)
      have Dt_36a_t_21a := Lib.hid (apart_call ot_36a Ot_21a.out)
      have Dt_36a_t_28 := Lib.hid (apart_call ot_36a Ot_28.out)
      have Dt_36a_t_31_rows := Lib.hid (apart_call ot_36a Ot_31_rows.out)
      have Dt_36a_aB_0 := Lib.hid (apart_callbox ot_36a kaB_0_0__26)
      have Dt_36a_x1_32 := Lib.hid (apart_callbox ot_36a kx1_32_0)
      have Ot_36a := Lib.hid (own_lower ot_36a HBw_x1_32.out.size)
      clear ot_36a
      have HBwt_36 := Lib.hid (Below.step HBw_x1_32.out bt_36)
      replace kaB_0_0__26 := cell_below bt_36 kaB_0_0__26
      replace kx1_32_0 := cell_below bt_36 kx1_32_0
      replace Ot_18 := Lib.hid (own_below Ot_18.out bt_36)
      replace Ot_20_rows := Lib.hid (own_below Ot_20_rows.out bt_36)
      replace Ot_21a := Lib.hid (own_below Ot_21a.out bt_36)
      replace Ot_28 := Lib.hid (own_below Ot_28.out bt_36)
      replace Ot_31_rows := Lib.hid (own_below Ot_31_rows.out bt_36)
      clear bt_36
      replace H := bind_hid H
      obtain ⟨t_44, qt_44, H⟩ := H
      go_wp2_with fail
      go_at_call 24
      refine (Go.Proofs.Ytpcdaoeijlifmaa.GlEqIntA2S.C (t_36a) (t_21a) At_36a ct_36a At_21a ct_21a _   (Lib.hid (own_cells Ot_36a.out)) (Lib.hid (own_max Ot_36a.out)) (Lib.hid (own_cells Ot_21a.out)) (Lib.hid (own_max Ot_21a.out)) qt_44).mono ?_
      rintro e_t_44 wt_44 ⟨rfl, bt_44⟩
      have HBwt_44 := Lib.hid (Below.step HBwt_36.out bt_44)
      replace kaB_0_0__26 := cell_below bt_44 kaB_0_0__26
      replace kx1_32_0 := cell_below bt_44 kx1_32_0
      replace Ot_18 := Lib.hid (own_below Ot_18.out bt_44)
      replace Ot_20_rows := Lib.hid (own_below Ot_20_rows.out bt_44)
      replace Ot_21a := Lib.hid (own_below Ot_21a.out bt_44)
      replace Ot_28 := Lib.hid (own_below Ot_28.out bt_44)
      replace Ot_31_rows := Lib.hid (own_below Ot_31_rows.out bt_44)
      replace Ot_36a := Lib.hid (own_below Ot_36a.out bt_44)
      clear bt_44
      cases t_44 with
      | false =>
        replace H := let_hid H
        obtain ⟨t_45, ht_45, H⟩ := H
        obtain rfl : t_45 = true := ht_45.symm
        replace H := join_hid H
        replace H := ite_t H
        replace H := app_hid H
        replace H := ite_t H
        obtain rfl := ret_hid H
        go_wp2_with fail
        go_ret
        exact ⟨rfl, HBwt_44.out⟩
      | true =>
        replace H := let_hid H
        obtain ⟨t_45, ht_45, H⟩ := H
        obtain rfl : t_45 = false := ht_45.symm
        replace H := join_hid H
        replace H := ite_f H
        replace H := let_hid H
        obtain ⟨t_49, ht_49, H⟩ := H
        replace H := app_hid H
        cases t_49 with
        | false =>
          replace H := ite_f H
          replace H := bind_hid H
          obtain ⟨t_54, qt_54, H⟩ := H
          go_wp2_with fail
          go_at_call 21
          refine (Go.Proofs.Ytpcdaoeijlifmaa.GlToStringS.C (aSheet) A0 c0 _   (Lib.hid (Cells.below M0.out HBwt_44.out)) N0 qt_54).mono ?_
          rintro e_t_54 wt_54 ⟨At_54, ct_54, rfl, ot_54, bt_54⟩
          have Dt_54_t_18 := Lib.hid (apart_call ot_54 Ot_18.out)
          have Dt_54_t_20_rows := Lib.hid (apart_call ot_54 Ot_20_rows.out)
          have Dt_54_t_21a := Lib.hid (apart_call ot_54 Ot_21a.out)
          have Dt_54_t_28 := Lib.hid (apart_call ot_54 Ot_28.out)
          have Dt_54_t_31_rows := Lib.hid (apart_call ot_54 Ot_31_rows.out)
          have Dt_54_t_36a := Lib.hid (apart_call ot_54 Ot_36a.out)
          have Dt_54_aB_0 := Lib.hid (apart_callbox ot_54 kaB_0_0__26)
          have Dt_54_x1_32 := Lib.hid (apart_callbox ot_54 kx1_32_0)
          have Ot_54 := Lib.hid (own_lower ot_54 HBwt_44.out.size)
          clear ot_54
          have HBwt_54 := Lib.hid (Below.step HBwt_44.out bt_54)
          replace kaB_0_0__26 := cell_below bt_54 kaB_0_0__26
          replace kx1_32_0 := cell_below bt_54 kx1_32_0
          replace Ot_18 := Lib.hid (own_below Ot_18.out bt_54)
          replace Ot_20_rows := Lib.hid (own_below Ot_20_rows.out bt_54)
          replace Ot_21a := Lib.hid (own_below Ot_21a.out bt_54)
          replace Ot_28 := Lib.hid (own_below Ot_28.out bt_54)
          replace Ot_31_rows := Lib.hid (own_below Ot_31_rows.out bt_54)
          replace Ot_36a := Lib.hid (own_below Ot_36a.out bt_54)
          clear bt_54
          replace H := bind_hid H
          obtain ⟨t_55, qt_55, H⟩ := H
          go_wp2_with fail
          go_at_call 25
          refine (Go.Proofs.Ytpcdaoeijlifmaa.GlEqStringS.C (t_28) (t_54) At_28 ct_28 At_54 ct_54 _   (Lib.hid (own_cells Ot_28.out)) (Lib.hid (own_max Ot_28.out)) (Lib.hid (own_cells Ot_54.out)) (Lib.hid (own_max Ot_54.out)) qt_55).mono ?_
          rintro e_t_55 wt_55 ⟨rfl, bt_55⟩
          have HBwt_55 := Lib.hid (Below.step HBwt_54.out bt_55)
          replace kaB_0_0__26 := cell_below bt_55 kaB_0_0__26
          replace kx1_32_0 := cell_below bt_55 kx1_32_0
          replace Ot_18 := Lib.hid (own_below Ot_18.out bt_55)
          replace Ot_20_rows := Lib.hid (own_below Ot_20_rows.out bt_55)
          replace Ot_21a := Lib.hid (own_below Ot_21a.out bt_55)
          replace Ot_28 := Lib.hid (own_below Ot_28.out bt_55)
          replace Ot_31_rows := Lib.hid (own_below Ot_31_rows.out bt_55)
          replace Ot_36a := Lib.hid (own_below Ot_36a.out bt_55)
          replace Ot_54 := Lib.hid (own_below Ot_54.out bt_55)
          clear bt_55
          cases t_55 with
          | false =>
            replace H := let_hid H
            obtain ⟨t_56, ht_56, H⟩ := H
            obtain rfl : t_56 = true := ht_56.symm
            replace H := ite_t H
            obtain rfl := ret_hid H
            go_wp2_with fail
            go_ret
            exact ⟨rfl, HBwt_55.out⟩
          | true =>
            replace H := let_hid H
            obtain ⟨t_56, ht_56, H⟩ := H
            obtain rfl : t_56 = false := ht_56.symm
            replace H := ite_f H
            go_wp2_with fail
            have bd16 : Below wt_55.heap.size wt_55 wt_55.drew := (Below.refl _ _).drew
            have HBwt_55.drew := Lib.hid (Below.step HBwt_55.out bd16)
            replace kaB_0_0__26 := cell_below bd16 kaB_0_0__26
            replace kx1_32_0 := cell_below bd16 kx1_32_0
            replace Ot_18 := Lib.hid (own_below Ot_18.out bd16)
            replace Ot_20_rows := Lib.hid (own_below Ot_20_rows.out bd16)
            replace Ot_21a := Lib.hid (own_below Ot_21a.out bd16)
            replace Ot_28 := Lib.hid (own_below Ot_28.out bd16)
            replace Ot_31_rows := Lib.hid (own_below Ot_31_rows.out bd16)
            replace Ot_36a := Lib.hid (own_below Ot_36a.out bd16)
            replace Ot_54 := Lib.hid (own_below Ot_54.out bd16)
            clear bd16
            replace H := bind_hid H
            obtain ⟨t_60, qt_60, H⟩ := H
            obtain ⟨t_60_rows⟩ := t_60
            replace H := unBlock_hid H
            replace H := bind_hid H
            obtain ⟨t_61, qt_61, H⟩ := H
            cases t_61 with
            | false =>
              replace H := let_hid H
              obtain ⟨t_62, ht_62, H⟩ := H
              obtain rfl : t_62 = true := ht_62.symm
              go_region_held3 (fun w' => w'.cell? ⟨w.heap.size, 0, none⟩ = some (.slice A1_0 aB_rows.length c1_0) ∧ w'.cell? ⟨wt_31.heap.size, 0, none⟩ = some (.slice At_31_rows t_31_rows.length ct_31_rows)) (first | exact ⟨kaB_0_0__26, kx1_32_0⟩)
                  (first
                    | (go_at_call 22
                       refine (Go.Proofs.Ytpcdaoeijlifmaa.GlToBlock.C (aB_rows) A1_0 c1_0 _   (Lib.hid (Cells.below M1_0.out HBwt_55.drew.out)) N1_0 qt_60).mono ?_
                       rintro e_t_60 wt_60 ⟨At_60_rows, ct_60_rows, rfl, ot_60_rows, bt_60⟩
                       have Dt_60_rows_t_18 := Lib.hid (apart_call ot_60_rows Ot_18.out)
                       have Dt_60_rows_t_20_rows := Lib.hid (apart_call ot_60_rows Ot_20_rows.out)
                       have Dt_60_rows_t_21a := Lib.hid (apart_call ot_60_rows Ot_21a.out)
                       have Dt_60_rows_t_28 := Lib.hid (apart_call ot_60_rows Ot_28.out)
                       have Dt_60_rows_t_31_rows := Lib.hid (apart_call ot_60_rows Ot_31_rows.out)
                       have Dt_60_rows_t_36a := Lib.hid (apart_call ot_60_rows Ot_36a.out)
                       have Dt_60_rows_t_54 := Lib.hid (apart_call ot_60_rows Ot_54.out)
                       have Dt_60_rows_aB_0 := Lib.hid (apart_callbox ot_60_rows kaB_0_0__26)
                       have Dt_60_rows_x1_32 := Lib.hid (apart_callbox ot_60_rows kx1_32_0)
                       have Ot_60_rows := Lib.hid (own_lower ot_60_rows HBwt_55.drew.out.size)
                       clear ot_60_rows
                       have HBwt_60 := Lib.hid (Below.step HBwt_55.drew.out bt_60)
                       replace kaB_0_0__26 := cell_below bt_60 kaB_0_0__26
                       replace kx1_32_0 := cell_below bt_60 kx1_32_0
                       replace Ot_18 := Lib.hid (own_below Ot_18.out bt_60)
                       replace Ot_20_rows := Lib.hid (own_below Ot_20_rows.out bt_60)
                       replace Ot_21a := Lib.hid (own_below Ot_21a.out bt_60)
                       replace Ot_28 := Lib.hid (own_below Ot_28.out bt_60)
                       replace Ot_31_rows := Lib.hid (own_below Ot_31_rows.out bt_60)
                       replace Ot_36a := Lib.hid (own_below Ot_36a.out bt_60)
                       replace Ot_54 := Lib.hid (own_below Ot_54.out bt_60)
                       clear bt_60
                       clear qt_60)
                    | (go_at_call 26
                       refine (Go.Proofs.Ytpcdaoeijlifmaa.GlEqBlock.C (t_31_rows) (t_60_rows) At_31_rows ct_31_rows At_60_rows ct_60_rows _   (Lib.hid (own_cells Ot_31_rows.out)) (Lib.hid (own_max Ot_31_rows.out)) (Lib.hid (own_cells Ot_60_rows.out)) (Lib.hid (own_max Ot_60_rows.out)) qt_61).mono ?_
                       rintro e_t_61 wt_61 ⟨rfl, bt_61⟩
                       have HBwt_61 := Lib.hid (Below.step HBwt_60.out bt_61)
                       replace kaB_0_0__26 := cell_below bt_61 kaB_0_0__26
                       replace kx1_32_0 := cell_below bt_61 kx1_32_0
                       replace Ot_18 := Lib.hid (own_below Ot_18.out bt_61)
                       replace Ot_20_rows := Lib.hid (own_below Ot_20_rows.out bt_61)
                       replace Ot_21a := Lib.hid (own_below Ot_21a.out bt_61)
                       replace Ot_28 := Lib.hid (own_below Ot_28.out bt_61)
                       replace Ot_31_rows := Lib.hid (own_below Ot_31_rows.out bt_61)
                       replace Ot_36a := Lib.hid (own_below Ot_36a.out bt_61)
                       replace Ot_54 := Lib.hid (own_below Ot_54.out bt_61)
                       replace Ot_60_rows := Lib.hid (own_below Ot_60_rows.out bt_61)
                       clear bt_61
                       clear qt_61))
              replace H := ite_t H
              obtain rfl := ret_hid H
              go_wp2_with fail
              go_ret
              exact ⟨rfl, HBwt_61.out⟩
            | true =>
              replace H := let_hid H
              obtain ⟨t_62, ht_62, H⟩ := H
              obtain rfl : t_62 = false := ht_62.symm
              go_region_held3 (fun w' => w'.cell? ⟨w.heap.size, 0, none⟩ = some (.slice A1_0 aB_rows.length c1_0) ∧ w'.cell? ⟨wt_31.heap.size, 0, none⟩ = some (.slice At_31_rows t_31_rows.length ct_31_rows)) (first | exact ⟨kaB_0_0__26, kx1_32_0⟩)
                  (first
                    | (go_at_call 22
                       refine (Go.Proofs.Ytpcdaoeijlifmaa.GlToBlock.C (aB_rows) A1_0 c1_0 _   (Lib.hid (Cells.below M1_0.out HBwt_55.drew.out)) N1_0 qt_60).mono ?_
                       rintro e_t_60 wt_60 ⟨At_60_rows, ct_60_rows, rfl, ot_60_rows, bt_60⟩
                       have Dt_60_rows_t_18 := Lib.hid (apart_call ot_60_rows Ot_18.out)
                       have Dt_60_rows_t_20_rows := Lib.hid (apart_call ot_60_rows Ot_20_rows.out)
                       have Dt_60_rows_t_21a := Lib.hid (apart_call ot_60_rows Ot_21a.out)
                       have Dt_60_rows_t_28 := Lib.hid (apart_call ot_60_rows Ot_28.out)
                       have Dt_60_rows_t_31_rows := Lib.hid (apart_call ot_60_rows Ot_31_rows.out)
                       have Dt_60_rows_t_36a := Lib.hid (apart_call ot_60_rows Ot_36a.out)
                       have Dt_60_rows_t_54 := Lib.hid (apart_call ot_60_rows Ot_54.out)
                       have Dt_60_rows_aB_0 := Lib.hid (apart_callbox ot_60_rows kaB_0_0__26)
                       have Dt_60_rows_x1_32 := Lib.hid (apart_callbox ot_60_rows kx1_32_0)
                       have Ot_60_rows := Lib.hid (own_lower ot_60_rows HBwt_55.drew.out.size)
                       clear ot_60_rows
                       have HBwt_60 := Lib.hid (Below.step HBwt_55.drew.out bt_60)
                       replace kaB_0_0__26 := cell_below bt_60 kaB_0_0__26
                       replace kx1_32_0 := cell_below bt_60 kx1_32_0
                       replace Ot_18 := Lib.hid (own_below Ot_18.out bt_60)
                       replace Ot_20_rows := Lib.hid (own_below Ot_20_rows.out bt_60)
                       replace Ot_21a := Lib.hid (own_below Ot_21a.out bt_60)
                       replace Ot_28 := Lib.hid (own_below Ot_28.out bt_60)
                       replace Ot_31_rows := Lib.hid (own_below Ot_31_rows.out bt_60)
                       replace Ot_36a := Lib.hid (own_below Ot_36a.out bt_60)
                       replace Ot_54 := Lib.hid (own_below Ot_54.out bt_60)
                       clear bt_60
                       clear qt_60)
                    | (go_at_call 26
                       refine (Go.Proofs.Ytpcdaoeijlifmaa.GlEqBlock.C (t_31_rows) (t_60_rows) At_31_rows ct_31_rows At_60_rows ct_60_rows _   (Lib.hid (own_cells Ot_31_rows.out)) (Lib.hid (own_max Ot_31_rows.out)) (Lib.hid (own_cells Ot_60_rows.out)) (Lib.hid (own_max Ot_60_rows.out)) qt_61).mono ?_
                       rintro e_t_61 wt_61 ⟨rfl, bt_61⟩
                       have HBwt_61 := Lib.hid (Below.step HBwt_60.out bt_61)
                       replace kaB_0_0__26 := cell_below bt_61 kaB_0_0__26
                       replace kx1_32_0 := cell_below bt_61 kx1_32_0
                       replace Ot_18 := Lib.hid (own_below Ot_18.out bt_61)
                       replace Ot_20_rows := Lib.hid (own_below Ot_20_rows.out bt_61)
                       replace Ot_21a := Lib.hid (own_below Ot_21a.out bt_61)
                       replace Ot_28 := Lib.hid (own_below Ot_28.out bt_61)
                       replace Ot_31_rows := Lib.hid (own_below Ot_31_rows.out bt_61)
                       replace Ot_36a := Lib.hid (own_below Ot_36a.out bt_61)
                       replace Ot_54 := Lib.hid (own_below Ot_54.out bt_61)
                       replace Ot_60_rows := Lib.hid (own_below Ot_60_rows.out bt_61)
                       clear bt_61
                       clear qt_61))
              replace H := ite_f H
              replace H := bind2_hid H
              obtain ⟨t_67, lt_67, qt_67, H⟩ := H
              go_wp2_with fail
              go_at_call 27
              refine (Go.Proofs.Ytpcdaoeijlifmaa.GlMarkStringS.C (t_28) (1) At_28 ct_28 w.heap.size _   Ot_28 (Lib.hid (own_max Ot_28.out))   qt_67).mono ?_
              rintro e_t_67 wt_67 ⟨rfl, ot_67, nt_67, gt_67⟩
              have Pt_67 := Lib.hid ot_67
              have Gt_67 := Lib.hid gt_67
              replace nt_67 := Lib.hid nt_67
              clear ot_67 gt_67
              have HBwt_67 := Lib.hid (HBwt_61.out.grown Gt_67.out HBwt_61.out.size (fun q hq => (Ot_28.out.lt q hq).1))
              replace kaB_0_0__26 := cell_other kaB_0_0__26 Gt_67.out Dt_28_aB_0.out
              replace kx1_32_0 := cell_other kx1_32_0 Gt_67.out (Apart.symm Dx1_32_t_28.out)
              replace Ot_18 := Lib.hid (own_other Ot_18.out Gt_67.out Dt_28_t_18.out)
              replace Ot_20_rows := Lib.hid (own_other Ot_20_rows.out Gt_67.out Dt_28_t_20_rows.out)
              replace Ot_21a := Lib.hid (own_other Ot_21a.out Gt_67.out Dt_28_t_21a.out)
              replace Ot_31_rows := Lib.hid (own_other Ot_31_rows.out Gt_67.out (Apart.symm Dt_31_rows_t_28.out))
              replace Ot_36a := Lib.hid (own_other Ot_36a.out Gt_67.out (Apart.symm Dt_36a_t_28.out))
              replace Ot_54 := Lib.hid (own_other Ot_54.out Gt_67.out (Apart.symm Dt_54_t_28.out))
              replace Ot_60_rows := Lib.hid (own_other Ot_60_rows.out Gt_67.out (Apart.symm Dt_60_rows_t_28.out))
              clear Ot_28 Gt_67
              replace H := bind2_hid H
              obtain ⟨t_71, lt_71, qt_71, H⟩ := H
              go_wp2_with fail
              go_at_call 28
              refine (Go.Proofs.Ytpcdaoeijlifmaa.GlMarkBlock.C (t_31_rows) (t_67) At_31_rows ct_31_rows w.heap.size _   Ot_31_rows (Lib.hid (own_max Ot_31_rows.out))   qt_71).mono ?_
              rintro e_t_71 wt_71 ⟨rfl, ot_71, nt_71, gt_71⟩
              have Pt_71 := Lib.hid ot_71
              have Gt_71 := Lib.hid gt_71
              replace nt_71 := Lib.hid nt_71
              clear ot_71 gt_71
              have HBwt_71 := Lib.hid (HBwt_67.out.grown Gt_71.out HBwt_67.out.size (fun q hq => (Ot_31_rows.out.lt q hq).1))
              replace kaB_0_0__26 := cell_other kaB_0_0__26 Gt_71.out Dt_31_rows_aB_0.out
              replace kx1_32_0 := cell_other kx1_32_0 Gt_71.out (Apart.symm Dx1_32_t_31_rows.out)
              replace Ot_18 := Lib.hid (own_other Ot_18.out Gt_71.out Dt_31_rows_t_18.out)
              replace Ot_20_rows := Lib.hid (own_other Ot_20_rows.out Gt_71.out Dt_31_rows_t_20_rows.out)
              replace Ot_21a := Lib.hid (own_other Ot_21a.out Gt_71.out Dt_31_rows_t_21a.out)
              replace Pt_67 := Lib.hid (own_other Pt_67.out Gt_71.out Dt_31_rows_t_28.out)
              replace Ot_36a := Lib.hid (own_other Ot_36a.out Gt_71.out (Apart.symm Dt_36a_t_31_rows.out))
              replace Ot_54 := Lib.hid (own_other Ot_54.out Gt_71.out (Apart.symm Dt_54_t_31_rows.out))
              replace Ot_60_rows := Lib.hid (own_other Ot_60_rows.out Gt_71.out (Apart.symm Dt_60_rows_t_31_rows.out))
              clear Ot_31_rows Gt_71
              replace H := let_hid H
              obtain ⟨t_74, ht_74, H⟩ := H
              replace H := join_hid H
              cases t_74 with
              | false =>
                replace H := ite_f H
                replace H := bind_hid H
                obtain ⟨t_78, qt_78, H⟩ := H
                go_wp2_with fail
                go_at_call 24
                refine (Go.Proofs.Ytpcdaoeijlifmaa.GlEqIntA2S.C (t_36a) (t_21a) At_36a ct_36a At_21a ct_21a _   (Lib.hid (own_cells Ot_36a.out)) (Lib.hid (own_max Ot_36a.out)) (Lib.hid (own_cells Ot_21a.out)) (Lib.hid (own_max Ot_21a.out)) qt_78).mono ?_
                rintro e_t_78 wt_78 ⟨rfl, bt_78⟩
                have HBwt_78 := Lib.hid (Below.step HBwt_71.out bt_78)
                replace kaB_0_0__26 := cell_below bt_78 kaB_0_0__26
                replace kx1_32_0 := cell_below bt_78 kx1_32_0
                replace Ot_18 := Lib.hid (own_below Ot_18.out bt_78)
                replace Ot_20_rows := Lib.hid (own_below Ot_20_rows.out bt_78)
                replace Ot_21a := Lib.hid (own_below Ot_21a.out bt_78)
                replace Pt_67 := Lib.hid (own_below Pt_67.out bt_78)
                replace Pt_71 := Lib.hid (own_below Pt_71.out bt_78)
                replace Ot_36a := Lib.hid (own_below Ot_36a.out bt_78)
                replace Ot_54 := Lib.hid (own_below Ot_54.out bt_78)
                replace Ot_60_rows := Lib.hid (own_below Ot_60_rows.out bt_78)
                clear bt_78
                cases t_78 with
                | false =>
                  replace H := let_hid H
                  obtain ⟨t_79, ht_79, H⟩ := H
                  obtain rfl : t_79 = true := ht_79.symm
                  replace H := app_hid H
                  replace H := join_hid H
                  replace H := ite_t H
                  replace H := app_hid H
                  replace H := ite_t H
                  obtain rfl := ret_hid H
                  go_wp2_with fail
                  go_ret
                  exact ⟨rfl, HBwt_78.out⟩
                | true =>
                  replace H := let_hid H
                  obtain ⟨t_79, ht_79, H⟩ := H
                  obtain rfl : t_79 = false := ht_79.symm
                  replace H := app_hid H
                  replace H := join_hid H
                  replace H := ite_f H
                  replace H := let_hid H
                  obtain ⟨t_84, ht_84, H⟩ := H
                  obtain rfl := ht_49.symm.trans ht_84
                  replace H := app_hid H
                  replace H := ite_f H
                  replace H := bind2_hid H
                  obtain ⟨t_90, lt_90, qt_90, H⟩ := H
                  go_wp2_with fail
                  go_at_call 29
                  refine (Go.Proofs.Ytpcdaoeijlifmaa.GlMarkIntA2S.C (t_36a) (1) At_36a ct_36a w.heap.size _   Ot_36a (Lib.hid (own_max Ot_36a.out))   qt_90).mono ?_
                  rintro e_t_90 wt_90 ⟨rfl, ot_90, nt_90, gt_90⟩
                  have Pt_90 := Lib.hid ot_90
                  have Gt_90 := Lib.hid gt_90
                  replace nt_90 := Lib.hid nt_90
                  clear ot_90 gt_90
                  have HBwt_90 := Lib.hid (HBwt_78.out.grown Gt_90.out HBwt_78.out.size (fun q hq => (Ot_36a.out.lt q hq).1))
                  replace kaB_0_0__26 := cell_other kaB_0_0__26 Gt_90.out Dt_36a_aB_0.out
                  replace kx1_32_0 := cell_other kx1_32_0 Gt_90.out Dt_36a_x1_32.out
                  replace Ot_18 := Lib.hid (own_other Ot_18.out Gt_90.out Dt_36a_t_18.out)
                  replace Ot_20_rows := Lib.hid (own_other Ot_20_rows.out Gt_90.out Dt_36a_t_20_rows.out)
                  replace Ot_21a := Lib.hid (own_other Ot_21a.out Gt_90.out Dt_36a_t_21a.out)
                  replace Pt_67 := Lib.hid (own_other Pt_67.out Gt_90.out Dt_36a_t_28.out)
                  replace Pt_71 := Lib.hid (own_other Pt_71.out Gt_90.out Dt_36a_t_31_rows.out)
                  replace Ot_54 := Lib.hid (own_other Ot_54.out Gt_90.out (Apart.symm Dt_54_t_36a.out))
                  replace Ot_60_rows := Lib.hid (own_other Ot_60_rows.out Gt_90.out (Apart.symm Dt_60_rows_t_36a.out))
                  clear Ot_36a Gt_90
                  replace H := bind_hid H
                  obtain ⟨t_95, qt_95, H⟩ := H
                  go_wp2_with fail
                  have hc_ := nt_90.out
                  have hv_ : (Value.slice At_36a t_36a.length ct_36a : Value) = Value.slice At_36a lt_90.length ct_36a := by rw [hc_]
                  try rw [hv_]
                  replace Pt_90 := Lib.hid (own_len hc_ Pt_90.out)
                  clear hc_ hv_
                  go_wp2_with fail
                  go_at_call 30
                  refine (Go.Proofs.Ytpcdaoeijlifmaa.GlHeldIntA2S.C (lt_90) (1) At_36a ct_36a _   (Lib.hid (own_cells Pt_90.out)) (Lib.hid (own_max Pt_90.out)) qt_95).mono ?_
                  rintro e_t_95 wt_95 ⟨rfl, bt_95⟩
                  have HBwt_95 := Lib.hid (Below.step HBwt_90.out bt_95)
                  replace kaB_0_0__26 := cell_below bt_95 kaB_0_0__26
                  replace kx1_32_0 := cell_below bt_95 kx1_32_0
                  replace Ot_18 := Lib.hid (own_below Ot_18.out bt_95)
                  replace Ot_20_rows := Lib.hid (own_below Ot_20_rows.out bt_95)
                  replace Ot_21a := Lib.hid (own_below Ot_21a.out bt_95)
                  replace Pt_67 := Lib.hid (own_below Pt_67.out bt_95)
                  replace Pt_71 := Lib.hid (own_below Pt_71.out bt_95)
                  replace Pt_90 := Lib.hid (own_below Pt_90.out bt_95)
                  replace Ot_54 := Lib.hid (own_below Ot_54.out bt_95)
                  replace Ot_60_rows := Lib.hid (own_below Ot_60_rows.out bt_95)
                  clear bt_95
                  replace H := let_hid H
                  obtain ⟨t_98, ht_98, H⟩ := H
                  cases t_98 with
                  | false =>
                    replace H := ite_f H
                    replace H := let_hid H
                    obtain ⟨t_102, ht_102, H⟩ := H
                    cases t_102 with
                    | false =>
                      replace H := ite_f H
                      go_wp2_with fail
                      have hc_ := nt_67.out
                      have hv_ : (Value.slice At_28 t_28.length ct_28 : Value) = Value.slice At_28 lt_67.length ct_28 := by rw [hc_]
                      try rw [hv_]
                      replace Pt_67 := Lib.hid (own_len hc_ Pt_67.out)
                      clear hc_ hv_
                      go_wp2_with fail
                      have hc_ := nt_71.out
                      have hv_ : (Value.slice At_31_rows t_31_rows.length ct_31_rows : Value) = Value.slice At_31_rows lt_71.length ct_31_rows := by rw [hc_]
                      try rw [hv_]
                      replace Pt_71 := Lib.hid (own_len hc_ Pt_71.out)
                      rw [hv_] at kx1_32_0
                      clear hc_ hv_
                      go_wp2_with fail
                      have bd31 : Below wt_95.heap.size wt_95 wt_95.drew := (Below.refl _ _).drew
                      have HBwt_95.drew := Lib.hid (Below.step HBwt_95.out bd31)
                      replace kaB_0_0__26 := cell_below bd31 kaB_0_0__26
                      replace kx1_32_0 := cell_below bd31 kx1_32_0
                      replace Ot_18 := Lib.hid (own_below Ot_18.out bd31)
                      replace Ot_20_rows := Lib.hid (own_below Ot_20_rows.out bd31)
                      replace Ot_21a := Lib.hid (own_below Ot_21a.out bd31)
                      replace Pt_67 := Lib.hid (own_below Pt_67.out bd31)
                      replace Pt_71 := Lib.hid (own_below Pt_71.out bd31)
                      replace Pt_90 := Lib.hid (own_below Pt_90.out bd31)
                      replace Ot_54 := Lib.hid (own_below Ot_54.out bd31)
                      replace Ot_60_rows := Lib.hid (own_below Ot_60_rows.out bd31)
                      clear bd31
                      replace H := bind_hid H
                      obtain ⟨t_105, qt_105, H⟩ := H
                      replace H := bind_hid H
                      obtain ⟨t_107, qt_107, H⟩ := H
                      obtain ⟨t_107_rows⟩ := t_107
                      replace H := unBlock_hid H
                      replace H := bind2_hid H
                      obtain ⟨t_108a, t_108b, qt_108, H⟩ := H
                      go_region_held3 (fun w' => w'.cell? ⟨w.heap.size, 0, none⟩ = some (.slice A1_0 aB_rows.length c1_0) ∧ w'.cell? ⟨wt_31.heap.size, 0, none⟩ = some (.slice At_31_rows lt_71.length ct_31_rows)) (first | exact ⟨kaB_0_0__26, kx1_32_0⟩)
                          (first
                            | (go_at_call 21
                               refine (Go.Proofs.Ytpcdaoeijlifmaa.GlToStringS.C (aSheet) A0 c0 _   (Lib.hid (Cells.below M0.out HBwt_95.drew.out)) N0 qt_105).mono ?_
                               rintro e_t_105 wt_105 ⟨At_105, ct_105, rfl, ot_105, bt_105⟩
                               have Dt_105_t_18 := Lib.hid (apart_call ot_105 Ot_18.out)
                               have Dt_105_t_20_rows := Lib.hid (apart_call ot_105 Ot_20_rows.out)
                               have Dt_105_t_21a := Lib.hid (apart_call ot_105 Ot_21a.out)
                               have Dt_105_t_28 := Lib.hid (apart_call ot_105 Pt_67.out)
                               have Dt_105_t_31_rows := Lib.hid (apart_call ot_105 Pt_71.out)
                               have Dt_105_t_36a := Lib.hid (apart_call ot_105 Pt_90.out)
                               have Dt_105_t_54 := Lib.hid (apart_call ot_105 Ot_54.out)
                               have Dt_105_t_60_rows := Lib.hid (apart_call ot_105 Ot_60_rows.out)
                               have Dt_105_aB_0 := Lib.hid (apart_callbox ot_105 kaB_0_0__26)
                               have Dt_105_x1_32 := Lib.hid (apart_callbox ot_105 kx1_32_0)
                               have Ot_105 := Lib.hid (own_lower ot_105 HBwt_95.drew.out.size)
                               clear ot_105
                               have HBwt_105 := Lib.hid (Below.step HBwt_95.drew.out bt_105)
                               replace kaB_0_0__26 := cell_below bt_105 kaB_0_0__26
                               replace kx1_32_0 := cell_below bt_105 kx1_32_0
                               replace Ot_18 := Lib.hid (own_below Ot_18.out bt_105)
                               replace Ot_20_rows := Lib.hid (own_below Ot_20_rows.out bt_105)
                               replace Ot_21a := Lib.hid (own_below Ot_21a.out bt_105)
                               replace Pt_67 := Lib.hid (own_below Pt_67.out bt_105)
                               replace Pt_71 := Lib.hid (own_below Pt_71.out bt_105)
                               replace Pt_90 := Lib.hid (own_below Pt_90.out bt_105)
                               replace Ot_54 := Lib.hid (own_below Ot_54.out bt_105)
                               replace Ot_60_rows := Lib.hid (own_below Ot_60_rows.out bt_105)
                               clear bt_105
                               clear qt_105)
                            | (go_at_call 22
                               refine (Go.Proofs.Ytpcdaoeijlifmaa.GlToBlock.C (aB_rows) A1_0 c1_0 _   (Lib.hid (Cells.below M1_0.out HBwt_105.out)) N1_0 qt_107).mono ?_
                               rintro e_t_107 wt_107 ⟨At_107_rows, ct_107_rows, rfl, ot_107_rows, bt_107⟩
                               have Dt_107_rows_t_18 := Lib.hid (apart_call ot_107_rows Ot_18.out)
                               have Dt_107_rows_t_20_rows := Lib.hid (apart_call ot_107_rows Ot_20_rows.out)
                               have Dt_107_rows_t_21a := Lib.hid (apart_call ot_107_rows Ot_21a.out)
                               have Dt_107_rows_t_28 := Lib.hid (apart_call ot_107_rows Pt_67.out)
                               have Dt_107_rows_t_31_rows := Lib.hid (apart_call ot_107_rows Pt_71.out)
                               have Dt_107_rows_t_36a := Lib.hid (apart_call ot_107_rows Pt_90.out)
                               have Dt_107_rows_t_54 := Lib.hid (apart_call ot_107_rows Ot_54.out)
                               have Dt_107_rows_t_60_rows := Lib.hid (apart_call ot_107_rows Ot_60_rows.out)
                               have Dt_107_rows_t_105 := Lib.hid (apart_call ot_107_rows Ot_105.out)
                               have Dt_107_rows_aB_0 := Lib.hid (apart_callbox ot_107_rows kaB_0_0__26)
                               have Dt_107_rows_x1_32 := Lib.hid (apart_callbox ot_107_rows kx1_32_0)
                               have Ot_107_rows := Lib.hid (own_lower ot_107_rows HBwt_105.out.size)
                               clear ot_107_rows
                               have HBwt_107 := Lib.hid (Below.step HBwt_105.out bt_107)
                               replace kaB_0_0__26 := cell_below bt_107 kaB_0_0__26
                               replace kx1_32_0 := cell_below bt_107 kx1_32_0
                               replace Ot_18 := Lib.hid (own_below Ot_18.out bt_107)
                               replace Ot_20_rows := Lib.hid (own_below Ot_20_rows.out bt_107)
                               replace Ot_21a := Lib.hid (own_below Ot_21a.out bt_107)
                               replace Pt_67 := Lib.hid (own_below Pt_67.out bt_107)
                               replace Pt_71 := Lib.hid (own_below Pt_71.out bt_107)
                               replace Pt_90 := Lib.hid (own_below Pt_90.out bt_107)
                               replace Ot_54 := Lib.hid (own_below Ot_54.out bt_107)
                               replace Ot_60_rows := Lib.hid (own_below Ot_60_rows.out bt_107)
                               replace Ot_105 := Lib.hid (own_below Ot_105.out bt_107)
                               clear bt_107
                               clear qt_107)
                            | (go_at_call 23
                               refine (Go.Proofs.Ytpcdaoeijlifmaa.GiPlacesFor.C (t_105) (t_107_rows) At_105 ct_105 At_107_rows ct_107_rows _   (Lib.hid (own_cells Ot_105.out)) (Lib.hid (own_max Ot_105.out)) (Lib.hid (own_cells Ot_107_rows.out)) (Lib.hid (own_max Ot_107_rows.out)) qt_108).mono ?_
                               rintro e_t_108 wt_108 ⟨At_108a, ct_108a, rfl, ot_108a, bt_108⟩
                               have Dt_108a_t_18 := Lib.hid (apart_call ot_108a Ot_18.out)
                               have Dt_108a_t_20_rows := Lib.hid (apart_call ot_108a Ot_20_rows.out)
                               have Dt_108a_t_21a := Lib.hid (apart_call ot_108a Ot_21a.out)
                               have Dt_108a_t_28 := Lib.hid (apart_call ot_108a Pt_67.out)
                               have Dt_108a_t_31_rows := Lib.hid (apart_call ot_108a Pt_71.out)
                               have Dt_108a_t_36a := Lib.hid (apart_call ot_108a Pt_90.out)
                               have Dt_108a_t_54 := Lib.hid (apart_call ot_108a Ot_54.out)
                               have Dt_108a_t_60_rows := Lib.hid (apart_call ot_108a Ot_60_rows.out)
                               have Dt_108a_t_105 := Lib.hid (apart_call ot_108a Ot_105.out)
                               have Dt_108a_t_107_rows := Lib.hid (apart_call ot_108a Ot_107_rows.out)
                               have Dt_108a_aB_0 := Lib.hid (apart_callbox ot_108a kaB_0_0__26)
                               have Dt_108a_x1_32 := Lib.hid (apart_callbox ot_108a kx1_32_0)
                               have Ot_108a := Lib.hid (own_lower ot_108a HBwt_107.out.size)
                               clear ot_108a
                               have HBwt_108 := Lib.hid (Below.step HBwt_107.out bt_108)
                               replace kaB_0_0__26 := cell_below bt_108 kaB_0_0__26
                               replace kx1_32_0 := cell_below bt_108 kx1_32_0
                               replace Ot_18 := Lib.hid (own_below Ot_18.out bt_108)
                               replace Ot_20_rows := Lib.hid (own_below Ot_20_rows.out bt_108)
                               replace Ot_21a := Lib.hid (own_below Ot_21a.out bt_108)
                               replace Pt_67 := Lib.hid (own_below Pt_67.out bt_108)
                               replace Pt_71 := Lib.hid (own_below Pt_71.out bt_108)
                               replace Pt_90 := Lib.hid (own_below Pt_90.out bt_108)
                               replace Ot_54 := Lib.hid (own_below Ot_54.out bt_108)
                               replace Ot_60_rows := Lib.hid (own_below Ot_60_rows.out bt_108)
                               replace Ot_105 := Lib.hid (own_below Ot_105.out bt_108)
                               replace Ot_107_rows := Lib.hid (own_below Ot_107_rows.out bt_108)
                               clear bt_108
                               clear qt_108))
                      replace H := bind_hid H
                      obtain ⟨t_116, qt_116, H⟩ := H
                      go_wp2_with fail
                      go_at_call 24
                      refine (Go.Proofs.Ytpcdaoeijlifmaa.GlEqIntA2S.C (t_108a) (t_21a) At_108a ct_108a At_21a ct_21a _   (Lib.hid (own_cells Ot_108a.out)) (Lib.hid (own_max Ot_108a.out)) (Lib.hid (own_cells Ot_21a.out)) (Lib.hid (own_max Ot_21a.out)) qt_116).mono ?_
                      rintro e_t_116 wt_116 ⟨rfl, bt_116⟩
                      have HBwt_116 := Lib.hid (Below.step HBwt_108.out bt_116)
                      replace kaB_0_0__26 := cell_below bt_116 kaB_0_0__26
                      replace kx1_32_0 := cell_below bt_116 kx1_32_0
                      replace Ot_18 := Lib.hid (own_below Ot_18.out bt_116)
                      replace Ot_20_rows := Lib.hid (own_below Ot_20_rows.out bt_116)
                      replace Ot_21a := Lib.hid (own_below Ot_21a.out bt_116)
                      replace Pt_67 := Lib.hid (own_below Pt_67.out bt_116)
                      replace Pt_71 := Lib.hid (own_below Pt_71.out bt_116)
                      replace Pt_90 := Lib.hid (own_below Pt_90.out bt_116)
                      replace Ot_54 := Lib.hid (own_below Ot_54.out bt_116)
                      replace Ot_60_rows := Lib.hid (own_below Ot_60_rows.out bt_116)
                      replace Ot_105 := Lib.hid (own_below Ot_105.out bt_116)
                      replace Ot_107_rows := Lib.hid (own_below Ot_107_rows.out bt_116)
                      replace Ot_108a := Lib.hid (own_below Ot_108a.out bt_116)
                      clear bt_116
                      cases t_116 with
                      | false =>
                        replace H := let_hid H
                        obtain ⟨t_117, ht_117, H⟩ := H
                        obtain rfl : t_117 = true := ht_117.symm
                        replace H := join_hid H
                        replace H := ite_t H
                        replace H := app_hid H
                        replace H := ite_t H
                        obtain rfl := ret_hid H
                        go_wp2_with fail
                        go_ret
                        exact ⟨rfl, HBwt_116.out⟩
                      | true =>
                        replace H := let_hid H
                        obtain ⟨t_117, ht_117, H⟩ := H
                        obtain rfl : t_117 = false := ht_117.symm
                        replace H := join_hid H
                        replace H := ite_f H
                        replace H := let_hid H
                        obtain ⟨t_121, ht_121, H⟩ := H
                        replace H := app_hid H
                        cases t_121 with
                        | false =>
                          replace H := ite_f H
                          replace H := bind_hid H
                          obtain ⟨t_127, qt_127, H⟩ := H
                          go_wp2_with fail
                          go_at_call 30
                          refine (Go.Proofs.Ytpcdaoeijlifmaa.GlHeldIntA2S.C (lt_90) (1) At_36a ct_36a _   (Lib.hid (own_cells Pt_90.out)) (Lib.hid (own_max Pt_90.out)) qt_127).mono ?_
                          rintro e_t_127 wt_127 ⟨rfl, bt_127⟩
                          have HBwt_127 := Lib.hid (Below.step HBwt_116.out bt_127)
                          replace kaB_0_0__26 := cell_below bt_127 kaB_0_0__26
                          replace kx1_32_0 := cell_below bt_127 kx1_32_0
                          replace Ot_18 := Lib.hid (own_below Ot_18.out bt_127)
                          replace Ot_20_rows := Lib.hid (own_below Ot_20_rows.out bt_127)
                          replace Ot_21a := Lib.hid (own_below Ot_21a.out bt_127)
                          replace Pt_67 := Lib.hid (own_below Pt_67.out bt_127)
                          replace Pt_71 := Lib.hid (own_below Pt_71.out bt_127)
                          replace Pt_90 := Lib.hid (own_below Pt_90.out bt_127)
                          replace Ot_54 := Lib.hid (own_below Ot_54.out bt_127)
                          replace Ot_60_rows := Lib.hid (own_below Ot_60_rows.out bt_127)
                          replace Ot_105 := Lib.hid (own_below Ot_105.out bt_127)
                          replace Ot_107_rows := Lib.hid (own_below Ot_107_rows.out bt_127)
                          replace Ot_108a := Lib.hid (own_below Ot_108a.out bt_127)
                          clear bt_127
                          replace H := let_hid H
                          obtain ⟨t_130, ht_130, H⟩ := H
                          cases t_130 with
                          | false =>
                            replace H := ite_f H
                            replace H := let_hid H
                            obtain ⟨t_134, ht_134, H⟩ := H
                            cases t_134 with
                            | false =>
                              replace H := ite_f H
                              obtain rfl := ret_hid H
                              go_wp2_with fail
                              go_ret
                              exact ⟨rfl, HBwt_127.out⟩
                            | true =>
                              replace H := ite_t H
                              obtain rfl := ret_hid H
                              go_wp2_with fail
                              go_ret
                              exact ⟨rfl, HBwt_127.out⟩
                          | true =>
                            replace H := ite_t H
                            obtain rfl := ret_hid H
                            go_wp2_with fail
                            go_ret
                            exact ⟨rfl, HBwt_127.out⟩
                        | true =>
                          replace H := ite_t H
                          obtain rfl := ret_hid H
                          go_wp2_with fail
                          go_ret
                          exact ⟨rfl, HBwt_116.out⟩
                    | true =>
                      replace H := ite_t H
                      obtain rfl := ret_hid H
                      go_wp2_with fail
                      go_ret
                      exact ⟨rfl, HBwt_95.out⟩
                  | true =>
                    replace H := ite_t H
                    obtain rfl := ret_hid H
                    go_wp2_with fail
                    go_ret
                    exact ⟨rfl, HBwt_95.out⟩
              | true =>
                replace H := ite_t H
                replace H := app_hid H
                replace H := join_hid H
                replace H := ite_t H
                replace H := app_hid H
                replace H := ite_t H
                obtain rfl := ret_hid H
                go_wp2_with fail
                go_ret
                exact ⟨rfl, HBwt_71.out⟩
        | true =>
          replace H := ite_t H
          obtain rfl := ret_hid H
          go_wp2_with fail
          go_ret
          exact ⟨rfl, HBwt_44.out⟩
    | true =>
      replace H := ite_t H
      obtain rfl := ret_hid H
      go_wp2_with fail
      go_ret
      exact ⟨rfl, HBwt_12.out⟩
  | true =>
    replace H := ite_t H
    obtain rfl := ret_hid H
    go_wp2_with fail
    go_ret
    exact ⟨rfl, HBwt_5.out⟩
end Go.Proofs.Ytpcdaoeijlifmaa.GlFnExactPlacesFor

/- Plain words on stamps: what a stamp is, when one is valid, when a list of them is; the cells of a list of records. No condition. -/
namespace Go.Proofs.Ytpcdaoeijlifmaa.PlainStamp
set_option linter.unusedVariables false

/-- a number lies in a..b -/
def inB (x a b : Int) : Bool := decide (a ≤ x ∧ x ≤ b)
theorem inB_yes {x a b : Int} (h1 : a ≤ x) (h2 : x ≤ b) : inB x a b = true := by unfold inB; exact decide_eq_true ⟨h1, h2⟩
theorem inB_of {x a b : Int} (h : inB x a b = true) : a ≤ x ∧ x ≤ b := by unfold inB at h; exact of_decide_eq_true h
theorem inB_no {x a b : Int} (h : x < a ∨ b < x) : inB x a b = false := by unfold inB; exact decide_eq_false (by omega)

structure St where
  id : Int
  face : Int
  color : Int
  year : Int
deriving DecidableEq

def St.cells (s : St) : List Value := [.int .i64 s.id, .int .i64 s.face, .int .i64 s.color, .int .i64 s.year]
def St.val (s : St) : Value := .agg #[.int .i64 s.id, .int .i64 s.face, .int .i64 s.color, .int .i64 s.year]
/-- each field fits an int -/
def St.fits (s : St) : Prop := (Lit.int .i64 s.id).wf = true ∧ (Lit.int .i64 s.face).wf = true ∧ (Lit.int .i64 s.color).wf = true ∧ (Lit.int .i64 s.year).wf = true

def okSt (s : St) : Bool := inB s.id 1 999 && inB s.face 0 9999 && inB s.color 0 99 && inB s.year 1840 2100
theorem okSt_yes {s : St} (h : okSt s = true) : (1 ≤ s.id ∧ s.id ≤ 999) ∧ (0 ≤ s.face ∧ s.face ≤ 9999) ∧ (0 ≤ s.color ∧ s.color ≤ 99) ∧ (1840 ≤ s.year ∧ s.year ≤ 2100) := by
  unfold okSt at h
  simp only [Bool.and_eq_true] at h
  exact ⟨inB_of h.1.1.1, inB_of h.1.1.2, inB_of h.1.2, inB_of h.2⟩

/-- the stamp at k is valid, and its id is above the one ahead of it -/
def okAt (l : List St) (k : Nat) : Bool :=
  match l[k]? with
  | none => true
  | some s => okSt s && (decide (k = 0) || (match l[k-1]? with | none => true | some r => decide (r.id < s.id)))
def okUp (l : List St) (k : Nat) : Bool := (List.range k).all (okAt l)
theorem okUp_zero (l : List St) : okUp l 0 = true := by simp [okUp]
theorem okUp_succ (l : List St) (k : Nat) : okUp l (k + 1) = (okUp l k && okAt l k) := by simp [okUp, List.range_succ, List.all_append]
theorem okUp_not {l : List St} {k n : Nat} (h : okAt l k = false) (hk : k < n) : okUp l n = false := by
  unfold okUp
  rw [Bool.eq_false_iff]
  intro hall
  have := List.all_eq_true.1 hall k (List.mem_range.2 hk)
  rw [h] at this; exact absurd this (by simp)
/-- a list of at most twelve valid stamps with rising ids -/
def okSts (l : List St) : Bool := decide (l.length ≤ 12) && okUp l l.length
theorem okAt_of {l : List St} {k : Nat} {s : St} (hs : l[k]? = some s) (h : okAt l k = true) : okSt s = true ∧ ∀ r, 0 < k → l[k-1]? = some r → r.id < s.id := by
  unfold okAt at h
  rw [hs] at h
  simp only [Bool.and_eq_true, Bool.or_eq_true, decide_eq_true_eq] at h
  refine ⟨h.1, fun r hk hr => ?_⟩
  rcases h.2 with h0 | h0
  · omega
  · rw [hr] at h0; simpa using h0
theorem okSts_len {l : List St} (h : okSts l = true) : l.length ≤ 12 := by unfold okSts at h; simp only [Bool.and_eq_true, decide_eq_true_eq] at h; exact h.1
theorem okSts_at {l : List St} (h : okSts l = true) {k : Nat} {s : St} (hs : l[k]? = some s) : okSt s = true ∧ ∀ r, 0 < k → l[k-1]? = some r → r.id < s.id := by
  unfold okSts at h
  simp only [Bool.and_eq_true, decide_eq_true_eq] at h
  exact okAt_of hs (List.all_eq_true.1 h.2 k (List.mem_range.2 (List.getElem?_eq_some_iff.1 hs).1))
theorem okSts_mem {l : List St} (h : okSts l = true) {s : St} (hs : s ∈ l) : okSt s = true := by
  obtain ⟨k, hk⟩ := List.getElem?_of_mem hs
  exact (okSts_at h hk).1

/-- the cells of a list of stamps, one after the other -/
def flat (l : List St) : List Value := l.flatMap St.cells
theorem flat_nil : flat [] = [] := rfl
theorem flat_cons (s : St) (l : List St) : flat (s :: l) = s.cells ++ flat l := by simp [flat]
theorem flat_len (l : List St) : (flat l).length = l.length * 4 := by
  induction l with
  | nil => rfl
  | cons s l ih => rw [flat_cons, List.length_append, ih]; simp [St.cells]; omega
theorem flat_at : ∀ (l : List St) (k : Nat) (s : St), l[k]? = some s → ∀ j, j < 4 → (flat l)[k * 4 + j]? = s.cells[j]?
  | [], k, s, h, _, _ => by simp at h
  | r :: l, 0, s, h, j, hj => by
    obtain rfl : r = s := by simpa using h
    rw [flat_cons, List.getElem?_append_left (by simp [St.cells]; omega)]; simp
  | r :: l, k + 1, s, h, j, hj => by
    rw [flat_cons, List.getElem?_append_right (by simp [St.cells]; omega), show (k + 1) * 4 + j - r.cells.length = k * 4 + j by simp [St.cells]; omega]
    exact flat_at l k s (by simpa using h) j hj
end Go.Proofs.Ytpcdaoeijlifmaa.PlainStamp

/- Words for reckoning with plain functions; within and l1In. No condition. -/
namespace Go.Proofs.Ytpcdaoeijlifmaa.QBase
set_option linter.unusedVariables false
set_option linter.unusedSimpArgs false
open Go.RowKit
open Go.Proofs.Ytpcdaoeijlifmaa.GoP Go.Proofs.Ytpcdaoeijlifmaa.PlainStamp

theorem iteK_if {ρ : Type} (c : Bool) (a b : Option ρ) : iteK c a b = if c = true then a else b := by cases c <;> rfl
theorem bind2_some {α β ρ : Type} (a : α) (b : β) (f : α → β → Option ρ) : bind2 (some (a, b)) f = f a b := rfl
theorem bind3_some {α β γ ρ : Type} (a : α) (b : β) (c : γ) (f : α → β → γ → Option ρ) : bind3 (some (a, b, c)) f = f a b c := rfl
theorem unp2_mk {α β ρ : Type} (a : α) (b : β) (f : α → β → Option ρ) : unp2 (a, b) f = f a b := rfl
theorem unp3_mk {α β γ ρ : Type} (a : α) (b : β) (c : γ) (f : α → β → γ → Option ρ) : unp3 (a, b, c) f = f a b c := rfl
theorem guardK_pos {ρ : Type} {p : Prop} [Decidable p] {a : Option ρ} (h : p) : guardK p a = a := if_pos h
theorem cut2 {α β : Type} {x : Option (α × β)} {p : α × β} (h : x = some p) : x = some (p.1, p.2) := h
theorem cut3 {α β γ : Type} {x : Option (α × β × γ)} {p : α × β × γ} (h : x = some p) : x = some (p.1, p.2.1, p.2.2) := h
theorem within_eq (n a b : Int) : GiWithin.P n a b = some (inB n a b) := by
  simp only [GiWithin.P, letK, joinK, appK, iteK_if, inB]
  by_cases h1 : a ≤ n <;> by_cases h2 : n ≤ b <;> simp [h1, h2]
theorem l1In_eq (n a b : Int) : GsL1In.P n a b = some (inB n a b) := by
  simp only [GsL1In.P, letK, joinK, appK, iteK_if, inB]
  by_cases h1 : a ≤ n <;> by_cases h2 : n ≤ b <;> simp [h1, h2]
end Go.Proofs.Ytpcdaoeijlifmaa.QBase

/- Reckoning with the loops of plain functions; lists of valid records with rising ids. No condition. -/
namespace Go.Proofs.Ytpcdaoeijlifmaa.QLoop
set_option linter.unusedVariables false
open Go.RowKit
open Go.Proofs.Ytpcdaoeijlifmaa.GoP Go.Proofs.Ytpcdaoeijlifmaa.QBase

theorem cnt_ex {σ ρ : Type} {f : Nat → σ → (σ → Option ρ) → (σ → Option ρ) → Option ρ} {fin : σ → Option ρ} {Q : ρ → Prop} {n : Nat} (I : Nat → σ → Prop)
    (step : ∀ k s nx, k < n → I k s → (∀ s', I (k + 1) s' → ∃ r, nx s' = some r ∧ Q r) → ∃ r, f k s nx fin = some r ∧ Q r) (done : ∀ s, I n s → ∃ r, fin s = some r ∧ Q r) :
    ∀ m k s, k + m = n → I k s → ∃ r, cntK f m k s fin = some r ∧ Q r := by
  intro m
  induction m with
  | zero => intro k s hk hI; obtain rfl : k = n := by omega
            exact done s hI
  | succ m ih => intro k s hk hI; exact step k s _ (by omega) hI (fun s' h' => ih (k + 1) s' (by omega) h')
theorem cnt_is {σ ρ : Type} {f : Nat → σ → (σ → Option ρ) → (σ → Option ρ) → Option ρ} {fin : σ → Option ρ} {n : Nat} (r : ρ) (I : Nat → σ → Prop)
    (step : ∀ k s nx, k < n → I k s → (∀ s', I (k + 1) s' → nx s' = some r) → f k s nx fin = some r) (done : ∀ s, I n s → fin s = some r) (s : σ) (h0 : I 0 s) : cntK f n 0 s fin = some r := by
  obtain ⟨r', h, rfl⟩ := cnt_ex (Q := fun x => x = r) I (fun k s nx hk hI hn => ⟨r, step k s nx hk hI (fun s' h' => by obtain ⟨_, h, rfl⟩ := hn s' h'; exact h), rfl⟩) (fun s h => ⟨r, done s h, rfl⟩) n 0 s (by omega) h0
  exact h
theorem at_lt {α : Type} {l : List α} {k : Nat} (h : k < l.length) : ∃ x, l[k]? = some x ∧ idx l (k : Int) = some x := ⟨l[k], List.getElem?_eq_getElem h, by rw [idx_nat, List.getElem?_eq_getElem h]⟩
theorem idx_pred {α : Type} {l : List α} {k : Nat} {x : α} (hk : 0 < k) (hb : k ≤ 9223372036854775807) (h : l[k - 1]? = some x) : idx l (IntKind.i64.wrap ((k : Int) - 1)) = some x := by
  rw [IntWalk.i64_in _ (by omega), show ((k : Int) - 1) = ((k - 1 : Nat) : Int) by omega, idx_nat, h]
theorem take_next {α : Type} {l : List α} {k : Nat} {x : α} (h : l[k]? = some x) : l.take (k + 1) = l.take k ++ [x] := by
  obtain ⟨hk, e⟩ := List.getElem?_eq_some_iff.1 h
  rw [List.take_succ_eq_append_getElem hk, e]
theorem all_next {α : Type} {p : α → Bool} {l : List α} {k : Nat} {x : α} (h : l[k]? = some x) : (l.take (k + 1)).all p = ((l.take k).all p && p x) := by
  rw [take_next h]; simp
theorem not_all {α : Type} {p : α → Bool} {l : List α} {k : Nat} {x : α} (h : l[k]? = some x) (hp : p x = false) : l.all p = false := by
  rw [Bool.eq_false_iff]
  intro ha
  have := List.all_eq_true.1 ha x (List.mem_of_getElem? h)
  rw [hp] at this; exact absurd this (by simp)
theorem wrap_in {x : Int} (h1 : -9223372036854775808 ≤ x) (h2 : x ≤ 9223372036854775807) : IntKind.i64.wrap x = x := IntWalk.i64_in _ (by omega)

/-- valid, and above the one ahead of it -/
def upAt {α : Type} (ok : α → Bool) (id : α → Int) (l : List α) (k : Nat) : Bool :=
  match l[k]? with
  | none => true
  | some s => ok s && (decide (k = 0) || (match l[k-1]? with | none => true | some r => decide (id r < id s)))
def upTo {α : Type} (ok : α → Bool) (id : α → Int) (l : List α) (k : Nat) : Bool := (List.range k).all (upAt ok id l)
theorem upTo_zero {α : Type} (ok : α → Bool) (id : α → Int) (l : List α) : upTo ok id l 0 = true := rfl
theorem upTo_succ {α : Type} (ok : α → Bool) (id : α → Int) (l : List α) (k : Nat) : upTo ok id l (k + 1) = (upTo ok id l k && upAt ok id l k) := by simp [upTo, List.range_succ, List.all_append]
theorem upTo_not {α : Type} {ok : α → Bool} {id : α → Int} {l : List α} {k n : Nat} (h : upAt ok id l k = false) (hk : k < n) : upTo ok id l n = false := by
  unfold upTo
  rw [Bool.eq_false_iff]
  intro ha
  have := List.all_eq_true.1 ha k (List.mem_range.2 hk)
  rw [h] at this; exact absurd this (by simp)
/-- a list of at most m valid records with rising ids -/
def upL {α : Type} (m : Nat) (ok : α → Bool) (id : α → Int) (l : List α) : Bool := decide (l.length ≤ m) && upTo ok id l l.length
theorem upAt_bad {α : Type} {ok : α → Bool} {id : α → Int} {l : List α} {k : Nat} {s : α} (hs : l[k]? = some s) (h : ok s = false) : upAt ok id l k = false := by unfold upAt; rw [hs]; simp [h]
theorem upAt_first {α : Type} {ok : α → Bool} {id : α → Int} {l : List α} {s : α} (hs : l[0]? = some s) (h : ok s = true) : upAt ok id l 0 = true := by unfold upAt; rw [hs]; simp [h]
theorem upAt_next {α : Type} {ok : α → Bool} {id : α → Int} {l : List α} {k : Nat} {s r : α} (hs : l[k]? = some s) (hr : l[k-1]? = some r) (hk : 0 < k) (h : ok s = true) : upAt ok id l k = decide (id r < id s) := by
  unfold upAt; rw [hs]; simp only [hr, h, Bool.true_and, decide_eq_false (show ¬ k = 0 by omega), Bool.false_or]
theorem upL_len {α : Type} {m : Nat} {ok : α → Bool} {id : α → Int} {l : List α} (h : upL m ok id l = true) : l.length ≤ m := by unfold upL at h; simp only [Bool.and_eq_true, decide_eq_true_eq] at h; exact h.1
theorem upL_ok {α : Type} {m : Nat} {ok : α → Bool} {id : α → Int} {l : List α} (h : upL m ok id l = true) {k : Nat} {s : α} (hs : l[k]? = some s) : ok s = true := by
  unfold upL at h
  simp only [Bool.and_eq_true, decide_eq_true_eq] at h
  have := List.all_eq_true.1 h.2 k (List.mem_range.2 (List.getElem?_eq_some_iff.1 hs).1)
  unfold upAt at this
  rw [hs] at this
  simp only [Bool.and_eq_true] at this
  exact this.1
theorem upL_mem {α : Type} {m : Nat} {ok : α → Bool} {id : α → Int} {l : List α} (h : upL m ok id l = true) {s : α} (hs : s ∈ l) : ok s = true := by
  obtain ⟨k, hk⟩ := List.getElem?_of_mem hs
  exact upL_ok h hk
/-- a loop that goes through a list of records and stops with 'false' at the first that is bad -/
theorem up_loop {α : Type} {ok : α → Bool} {id : α → Int} {l : List α} {R : Type} {no : R} {f : Nat → Unit → (Unit → Option R) → (Unit → Option R) → Option R} {fin : Unit → Option R}
    (step : ∀ k nx s, l[k]? = some s → (ok s = false → f k () nx fin = some no) ∧ (ok s = true → (k = 0 → f k () nx fin = nx ()) ∧ (0 < k → ∀ r, l[k-1]? = some r → (id r < id s → f k () nx fin = nx ()) ∧ (id s ≤ id r → f k () nx fin = some no)))) :
    cntK f l.length 0 () fin = if upTo ok id l l.length then fin () else some no := by
  have key : ∀ m k, k + m = l.length → upTo ok id l k = true → cntK f m k () fin = if upTo ok id l l.length then fin () else some no := by
    intro m
    induction m with
    | zero => intro k hk hu; obtain rfl : k = l.length := by omega
              rw [hu]; rfl
    | succ m ih =>
      intro k hk hu
      have hlt : k < l.length := by omega
      obtain ⟨s, hs, _⟩ := at_lt hlt
      obtain ⟨h1, h2⟩ := step k (fun s' => cntK f m (k + 1) s' fin) s hs
      show f k () _ fin = _
      cases hok : ok s with
      | false => rw [h1 hok, upTo_not (upAt_bad hs hok) hlt]; rfl
      | true =>
        obtain ⟨h3, h4⟩ := h2 hok
        by_cases hk0 : k = 0
        · rw [h3 hk0]
          subst hk0
          exact ih 1 (by omega) (by rw [upTo_succ, hu, upAt_first hs hok]; rfl)
        · obtain ⟨r, hr, _⟩ := at_lt (l := l) (k := k - 1) (by omega)
          obtain ⟨h5, h6⟩ := h4 (by omega) r hr
          by_cases hlt2 : id r < id s
          · rw [h5 hlt2]
            exact ih (k + 1) (by omega) (by rw [upTo_succ, hu, upAt_next hs hr (by omega) hok]; simpa using hlt2)
          · rw [h6 (by omega), upTo_not (by rw [upAt_next hs hr (by omega) hok]; simpa using hlt2) hlt]; rfl
  exact key l.length 0 (by omega) (upTo_zero ok id l)
end Go.Proofs.Ytpcdaoeijlifmaa.QLoop

/- The laws' helpers on slices of strings as plain functions: their bulk, copied, equal. Loops that test each place, and loops without a count. Condition: what is copied has at most 2^20 strings. -/
namespace Go.Proofs.Ytpcdaoeijlifmaa.QStrs
set_option linter.unusedVariables false
set_option linter.unusedSimpArgs false
open Go.RowKit
open Go.Proofs.Ytpcdaoeijlifmaa.GoP Go.Proofs.Ytpcdaoeijlifmaa.QBase Go.Proofs.Ytpcdaoeijlifmaa.QLoop

theorem size_list (s : ByteArray) : s.toList.length = s.size := by rw [Lib.toList_data]; rfl
theorem szS (l : List ByteArray) (left : Int) (h0 : 0 ≤ left) (h1 : left ≤ 1048576) (hf : ∀ s ∈ l, s.size ≤ maxLen) (hl : l.length ≤ 9223372036854775807) :
    ∃ v, GlSzStringS.P l left = some v ∧ v ≤ 1048576 ∧ (0 ≤ v → l.length ≤ 1048576 ∧ ∀ s ∈ l, s.size ≤ 1048576) := by
  simp only [GlSzStringS.P, letK, iteK_if]
  rw [wrap_in (by omega) (by omega)]
  by_cases h : left - (l.length : Int) < 0
  · exact ⟨-1, by rw [if_pos (by simp; omega)], by omega, by omega⟩
  · rw [if_neg (by simp; omega)]
    refine cnt_ex (n := l.length) (Q := fun v => v ≤ 1048576 ∧ (0 ≤ v → l.length ≤ 1048576 ∧ ∀ s ∈ l, s.size ≤ 1048576)) (fun k (s : Int) => 0 ≤ s ∧ s ≤ 1048576 ∧ ∀ x ∈ l.take k, x.size ≤ 1048576) ?_ ?_ l.length 0 _ (by omega) ⟨by omega, by omega, by simp⟩
    · intro k s nx hk hI hn
      obtain ⟨x, hx, hi⟩ := at_lt (l := l) (k := k) hk
      have hm := hf x (List.mem_of_getElem? hx)
      unfold maxLen at hm
      simp only [GlSzStringS.l0, hi, Option.bind_some, letK, appK, iteK_if]
      rw [wrap_in (by omega) (by omega)]
      by_cases hb : s - (x.size : Int) < 0
      · rw [if_pos (by simp; omega)]; exact ⟨-1, rfl, by omega, by omega⟩
      · rw [if_neg (by simp; omega)]
        refine hn _ ⟨by omega, by omega, fun y hy => ?_⟩
        rw [take_next hx] at hy
        rcases List.mem_append.1 hy with h1 | h1
        · exact hI.2.2 y h1
        · obtain rfl : y = x := by simpa using h1
          omega
    · intro s hI
      refine ⟨s, rfl, hI.2.1, fun _ => ⟨by omega, fun y hy => hI.2.2 y (by rw [List.take_length]; exact hy)⟩⟩
theorem toS (l : List ByteArray) (hl : l.length ≤ 1048576) : GlToStringS.P l = some l := by
  simp only [GlToStringS.P, letK]
  rw [guardK_pos (by omega)]
  refine cnt_is l (fun k s => s = l.take k ++ List.replicate (l.length - k) ByteArray.empty) ?_ ?_ _ (by simp)
  · intro k s nx hk hI hn
    obtain ⟨x, hx, hi⟩ := at_lt (l := l) (k := k) hk
    have hlen : s.length = l.length := by rw [hI]; simp; omega
    obtain ⟨z, hz, hj⟩ := at_lt (l := s) (k := k) (by omega)
    simp only [GlToStringS.l0, hi, hj, Option.bind_some, letK, appK]
    refine hn _ ?_
    rw [hI, take_next hx, List.set_append_right _ _ (by simp; omega)]
    have hr : l.length - k = (l.length - (k + 1)) + 1 := by omega
    rw [hr, List.replicate_succ, List.append_assoc]
    simp [show k - min k l.length = 0 by omega]
  · intro s hI
    rw [hI]; simp [GlToStringS.e0, letK]
theorem eqS (l : List ByteArray) : GlEqStringS.P l l = some true := by
  simp only [GlEqStringS.P, letK, iteK_if]
  rw [if_neg (by simp)]
  refine cnt_is true (fun _ _ => True) ?_ (fun s _ => rfl) () trivial
  intro k s nx hk _ hn
  obtain ⟨x, hx, hi⟩ := at_lt (l := l) (k := k) hk
  simp only [GlEqStringS.l0, hi, Option.bind_some, letK, appK, iteK_if]
  rw [if_neg (by simp)]
  exact hn () trivial

/-- each number below n is good -/
def allN (n : Nat) (p : Nat → Bool) : Bool := (List.range n).all p
theorem allN_iff {n : Nat} {p : Nat → Bool} : allN n p = true ↔ ∀ i, i < n → p i = true := by unfold allN; simp
theorem allN_no {n k : Nat} {p : Nat → Bool} (hk : k < n) (h : p k = false) : allN n p = false := by
  rw [Bool.eq_false_iff]; intro ha; rw [allN_iff.1 ha k hk] at h; exact absurd h (by simp)
theorem allN_eq {n m : Nat} {p q : Nat → Bool} (h : (∀ i, i < n → p i = true) ↔ (∀ i, i < m → q i = true)) : allN n p = allN m q := by
  rw [Bool.eq_iff_iff, allN_iff, allN_iff]; exact h
theorem all_cnt {ρ : Type} {n : Nat} {p : Nat → Bool} {no : ρ} {f : Nat → Unit → (Unit → Option ρ) → (Unit → Option ρ) → Option ρ} {fin : Unit → Option ρ}
    (step : ∀ k nx, k < n → (p k = false → f k () nx fin = some no) ∧ (p k = true → f k () nx fin = nx ())) : cntK f n 0 () fin = if allN n p = true then fin () else some no := by
  have key : ∀ m k, k + m = n → (∀ i, i < k → p i = true) → cntK f m k () fin = if allN n p = true then fin () else some no := by
    intro m
    induction m with
    | zero => intro k hk hu; obtain rfl : k = n := by omega
              rw [allN_iff.2 hu]; rfl
    | succ m ih =>
      intro k hk hu
      obtain ⟨h1, h2⟩ := step k (fun s' => cntK f m (k + 1) s' fin) (by omega)
      show f k () _ fin = _
      cases hp : p k with
      | false => rw [h1 hp, allN_no (by omega) hp]; rfl
      | true =>
        rw [h2 hp]
        refine ih (k + 1) (by omega) (fun i hi => ?_)
        by_cases he : i = k
        · rw [he]; exact hp
        · exact hu i (by omega)
  exact key n 0 (by omega) (fun i hi => by omega)
theorem lp_ex {σ ρ : Type} {f : σ → (σ → Option ρ) → (σ → Option ρ) → Option ρ} {fin : σ → Option ρ} {Q : ρ → Prop} {n : Nat} (I : Nat → σ → Prop)
    (step : ∀ k s nx, k < n → I k s → (∀ s', I (k + 1) s' → ∃ r, nx s' = some r ∧ Q r) → ∃ r, f s nx fin = some r ∧ Q r) (done : ∀ s nx, I n s → ∃ r, f s nx fin = some r ∧ Q r) :
    ∀ fuel k s, k ≤ n → n - k < fuel → I k s → ∃ r, loopK f fuel s fin = some r ∧ Q r := by
  intro fuel
  induction fuel with
  | zero => intro k s hk hf; omega
  | succ m ih =>
    intro k s hk hf hI
    show ∃ r, f s _ fin = some r ∧ Q r
    by_cases he : k = n
    · subst he; exact done s _ hI
    · exact step k s _ (by omega) hI (fun s' h' => ih (k + 1) s' (by omega) (by omega) h')
theorem all_lp {ρ : Type} {n : Nat} {p : Nat → Bool} {no : ρ} {f : Int → (Int → Option ρ) → (Int → Option ρ) → Option ρ} {fin : Int → Option ρ}
    (step : ∀ (k : Nat) nx, k < n → (p k = false → f (k : Int) nx fin = some no) ∧ (p k = true → f (k : Int) nx fin = nx ((k + 1 : Nat) : Int))) (stop : ∀ nx, f (n : Int) nx fin = fin (n : Int))
    (fuel : Nat) (hf : n < fuel) : loopK f fuel 0 fin = if allN n p = true then fin (n : Int) else some no := by
  have key : ∀ fuel k, k ≤ n → n - k < fuel → (∀ i, i < k → p i = true) → loopK f fuel (k : Int) fin = if allN n p = true then fin (n : Int) else some no := by
    intro fuel
    induction fuel with
    | zero => intro k hk hf; omega
    | succ m ih =>
      intro k hk hf hu
      show f (k : Int) _ fin = _
      by_cases he : k = n
      · subst he; rw [stop, allN_iff.2 hu]; rfl
      · obtain ⟨h1, h2⟩ := step k (fun s' => loopK f m s' fin) (by omega)
        cases hp : p k with
        | false => rw [h1 hp, allN_no (by omega) hp]; rfl
        | true =>
          rw [h2 hp]
          refine ih (k + 1) (by omega) (by omega) (fun i hi => ?_)
          by_cases he : i = k
          · rw [he]; exact hp
          · exact hu i (by omega)
  exact key fuel 0 (by omega) (by omega) (fun i hi => by omega)
theorem next_i {k : Nat} (h : k ≤ 9223372036854775806) : IntKind.i64.wrap ((k : Int) + 1) = ((k + 1 : Nat) : Int) := by rw [wrap_in (by omega) (by omega)]; omega
theorem at_list {s : ByteArray} {k : Nat} (h : k < s.size) : ∃ b, s.toList[k]? = some b ∧ idx s.toList (k : Int) = some b ∧ s.toList.getD k 0 = b := by
  obtain ⟨b, hb, hi⟩ := at_lt (l := s.toList) (k := k) (by rw [size_list]; exact h)
  exact ⟨b, hb, hi, by rw [List.getD_eq_getElem?_getD, hb]; rfl⟩
theorem at_row {l : List ByteArray} {k : Nat} (h : k < l.length) : ∃ r, l[k]? = some r ∧ idx l (k : Int) = some r ∧ l.getD k ByteArray.empty = r := by
  obtain ⟨b, hb, hi⟩ := at_lt (l := l) (k := k) h
  exact ⟨b, hb, hi, by rw [List.getD_eq_getElem?_getD, hb]; rfl⟩
end Go.Proofs.Ytpcdaoeijlifmaa.QStrs

/- Rows of a sheet and of a block: the program's test and the reference's are the same. Condition: at most 2^20 rows of at most 2^20 letters. -/
namespace Go.Proofs.Ytpcdaoeijlifmaa.QSheet
set_option linter.unusedVariables false
set_option linter.unusedSimpArgs false
open Go.RowKit
open Go.Proofs.Ytpcdaoeijlifmaa.GoP Go.Proofs.Ytpcdaoeijlifmaa.PlainStamp Go.Proofs.Ytpcdaoeijlifmaa.QBase Go.Proofs.Ytpcdaoeijlifmaa.QLoop Go.Proofs.Ytpcdaoeijlifmaa.QStrs

/-- a letter or a point -/
def okc (b : UInt8) : Bool := (b.toNat == 46) || decide (97 ≤ b.toNat ∧ b.toNat ≤ 122)
abbrev rw_ (l : List ByteArray) (i : Nat) : ByteArray := l.getD i ByteArray.empty
abbrev ch (s : ByteArray) (i : Nat) : UInt8 := s.toList.getD i 0
def rowB (l : List ByteArray) (i : Nat) : Bool := decide ((rw_ l i).size = (rw_ l 0).size) && allN (rw_ l i).size (fun k => okc (ch (rw_ l i) k))
def rowsB (l : List ByteArray) (m : Int) : Bool := inB (l.length : Int) 1 m && (inB ((rw_ l 0).size : Int) 1 m && allN l.length (rowB l))
theorem letter_eq (b : UInt8) : GiIsLetter.P (b.toNat : Int) = some (decide (97 ≤ b.toNat ∧ b.toNat ≤ 122)) := by
  simp only [GiIsLetter.P, letK, joinK, appK, iteK_if]
  by_cases h1 : 97 ≤ b.toNat
  · by_cases h2 : b.toNat ≤ 122
    · simp [h1, h2, show (97 : Int) ≤ b.toNat by omega, show (b.toNat : Int) ≤ 122 by omega]
    · simp [h1, h2, show (97 : Int) ≤ b.toNat by omega, show ¬ (b.toNat : Int) ≤ 122 by omega]
  · simp [h1, show ¬ (97 : Int) ≤ b.toNat by omega]
theorem inB_pos {n a b : Int} (h : inB n a b = true) : a ≤ n ∧ n ≤ b := by unfold inB at h; simpa using h
theorem impl_eq (l : List ByteArray) (m : Int) (hs : ∀ s ∈ l, s.size ≤ 1048576) : GiAreRows.P l m = some (rowsB l m) := by
  simp only [GiAreRows.P, within_eq, Option.bind_some, letK, joinK, appK, iteK_if]
  unfold rowsB
  cases h1 : inB (l.length : Int) 1 m with
  | false => simp
  | true =>
    have := (inB_pos h1).1
    obtain ⟨r0, hr0, hi0, hd0⟩ := at_row (l := l) (k := 0) (by omega)
    simp only [Int.ofNat_zero] at hi0
    simp only [hi0, Option.bind_some, Bool.not_true, Bool.false_eq_true, if_false, Bool.true_and]
    rw [show rw_ l 0 = r0 from hd0]
    cases h2 : inB (r0.size : Int) 1 m with
    | false => simp
    | true =>
      simp only [Bool.not_true, Bool.false_eq_true, if_false, Bool.true_and]
      rw [all_cnt (p := rowB l) (no := false)]
      · cases allN l.length (rowB l) <;> rfl
      · intro k nx hk
        obtain ⟨r, hr, hi, hd⟩ := at_row hk
        have hsz := hs r (List.mem_of_getElem? hr)
        simp only [GiAreRows.l0, hi, hi0, Option.bind_some, letK, iteK_if]
        unfold rowB
        rw [show rw_ l 0 = r0 from hd0, show rw_ l k = r from hd]
        by_cases he : r.size = r0.size
        · rw [if_neg (by simp; omega), guardK_pos (by omega)]
          rw [all_cnt (p := fun k => okc (ch r k)) (no := false)]
          · simp only [he, decide_true, Bool.true_and]
            cases allN r0.size (fun k => okc (ch r k)) <;> simp [GiAreRows.e1, appK]
          · intro j nx2 hj
            obtain ⟨b, hb, hib, hdb⟩ := at_list hj
            simp only [GiAreRows.l1, hib, Option.bind_some, letK, joinK, appK, iteK_if, letter_eq]
            rw [show ch r j = b from hdb]
            unfold okc
            by_cases h46 : b.toNat = 46
            · simp [h46]
            · by_cases hl : 97 ≤ b.toNat ∧ b.toNat ≤ 122 <;> simp [h46, hl] <;> omega
        · rw [if_pos (by simp; omega)]
          simp [he]
theorem spec_eq (l : List ByteArray) (m : Int) (fuel : Nat) (hf : 1048577 ≤ fuel) (hs : ∀ s ∈ l, s.size ≤ 1048576) : GsL4Rows.P fuel l m = some (rowsB l m) := by
  simp only [GsL4Rows.P, l1In_eq, Option.bind_some, letK, iteK_if]
  unfold rowsB
  cases h1 : inB (l.length : Int) 1 m with
  | false => simp
  | true =>
    have := (inB_pos h1).1
    obtain ⟨r0, hr0, hi0, hd0⟩ := at_row (l := l) (k := 0) (by omega)
    simp only [Int.ofNat_zero] at hi0
    simp only [Bool.not_true, Bool.false_eq_true, if_false, Bool.true_and]
    rw [show rw_ l 0 = r0 from hd0]
    rw [all_cnt (p := fun k => inB ((rw_ l k).size : Int) 1 m && rowB l k) (no := false)]
    · have e : allN l.length (fun k => inB ((rw_ l k).size : Int) 1 m && rowB l k) = (inB (r0.size : Int) 1 m && allN l.length (rowB l)) := by
        rw [Bool.eq_iff_iff, Bool.and_eq_true, allN_iff, allN_iff]
        constructor
        · intro h
          refine ⟨?_, fun i hi => (by have := h i hi; simp only [Bool.and_eq_true] at this; exact this.2)⟩
          have := h 0 (by omega)
          simp only [Bool.and_eq_true] at this
          rw [← show rw_ l 0 = r0 from hd0]; exact this.1
        · rintro ⟨h2, h3⟩ i hi
          have h4 := h3 i hi
          have h5 : (rw_ l i).size = r0.size := by
            unfold rowB at h4
            simp only [Bool.and_eq_true, decide_eq_true_eq] at h4
            rw [h4.1, show rw_ l 0 = r0 from hd0]
          simp only [Bool.and_eq_true]
          exact ⟨by rw [h5]; exact h2, h4⟩
      rw [e]
      cases inB (r0.size : Int) 1 m <;> cases allN l.length (rowB l) <;> rfl
    · intro k nx hk
      obtain ⟨r, hr, hi, hd⟩ := at_row hk
      have hsz := hs r (List.mem_of_getElem? hr)
      simp only [GsL4Rows.l0, hi, hi0, Option.bind_some, letK, joinK, appK, iteK_if, l1In_eq]
      unfold rowB
      rw [show rw_ l 0 = r0 from hd0, show rw_ l k = r from hd]
      by_cases he : r.size = r0.size
      · rw [if_neg (by simp; omega)]
        cases h3 : inB (r.size : Int) 1 m with
        | false => simp
        | true =>
          simp only [Bool.not_true, Bool.false_eq_true, if_false, Bool.true_and]
          rw [all_lp (n := r.size) (p := fun k => okc (ch r k)) (no := false) _ _ fuel (by omega)]
          · simp only [he, decide_true, Bool.true_and]
            cases allN r0.size (fun k => okc (ch r k)) <;> simp [GsL4Rows.e1, letK, appK]
          · intro j nx2 hj
            obtain ⟨b, hb, hib, hdb⟩ := at_list hj
            simp only [GsL4Rows.l1, hi, hib, Option.bind_some, letK, joinK, appK, iteK_if]
            rw [show ch r j = b from hdb, if_pos (by simp; omega), next_i (by omega)]
            unfold okc
            by_cases h46 : b.toNat = 46
            · simp [h46]
            · by_cases hl : 97 ≤ b.toNat
              · by_cases hl2 : b.toNat ≤ 122
                · simp [h46, hl, hl2, show ¬ ((b.toNat : Int) < 97) by omega, show ¬ ((122 : Int) < b.toNat) by omega]
                  try omega
                · simp [h46, hl, hl2, show ¬ ((b.toNat : Int) < 97) by omega, show ((122 : Int) < b.toNat) by omega]
                  try omega
              · simp [h46, hl, show ((b.toNat : Int) < 97) by omega]
                try omega
          · intro nx2
            simp only [GsL4Rows.l1, hi, Option.bind_some, letK, appK, iteK_if]
            rw [if_neg (by simp)]
      · rw [if_pos (by simp; omega)]
        simp [he]
end Go.Proofs.Ytpcdaoeijlifmaa.QSheet

/- Places for blocks on sheets: the plain functions of the program and of the reference agree, and the law answers true. (Q4Blk) No condition but those of each theorem. -/
namespace Go.Proofs.Ytpcdaoeijlifmaa.Q4Blk
set_option linter.unusedVariables false
set_option linter.unusedSimpArgs false
open Go.RowKit
open Go.Proofs.Ytpcdaoeijlifmaa.GoP Go.Proofs.Ytpcdaoeijlifmaa.PlainStamp Go.Proofs.Ytpcdaoeijlifmaa.QBase Go.Proofs.Ytpcdaoeijlifmaa.QLoop Go.Proofs.Ytpcdaoeijlifmaa.QStrs Go.Proofs.Ytpcdaoeijlifmaa.QSheet Go.Proofs.Ytpcdaoeijlifmaa.PBlock

theorem szB (l : List ByteArray) (left : Int) (h0 : 0 ≤ left) (h1 : left ≤ 1048576) (hf : ∀ s ∈ l, s.size ≤ maxLen) (hl : l.length ≤ 9223372036854775807) :
    ∃ v, GlSzBlock.P l left = some v ∧ v ≤ 1048576 ∧ (0 ≤ v → l.length ≤ 1048576 ∧ ∀ s ∈ l, s.size ≤ 1048576) := by
  obtain ⟨v, e, h2, h3⟩ := szS l left h0 h1 hf hl
  simp only [GlSzBlock.P, e, Option.bind_some, letK, iteK_if]
  by_cases hv : v < 0
  · exact ⟨-1, by simp [hv], by omega, by omega⟩
  · exact ⟨v, by simp [hv], h2, h3⟩
theorem toB (l : List ByteArray) (hl : l.length ≤ 1048576) : GlToBlock.P l = some (PBlock.Block.mk l) := by simp only [GlToBlock.P, toS l hl, Option.bind_some]
theorem eqB (l : List ByteArray) : GlEqBlock.P l l = some true := by simp [GlEqBlock.P, eqS, letK, iteK_if]
end Go.Proofs.Ytpcdaoeijlifmaa.Q4Blk

/- Loops that test each place, and loops without a count. No condition. -/
namespace Go.Proofs.Ytpcdaoeijlifmaa.QAll
set_option linter.unusedVariables false
set_option linter.unusedSimpArgs false
open Go.RowKit
open Go.Proofs.Ytpcdaoeijlifmaa.GoP Go.Proofs.Ytpcdaoeijlifmaa.QBase Go.Proofs.Ytpcdaoeijlifmaa.QLoop

/-- each number below n is good -/
def allN (n : Nat) (p : Nat → Bool) : Bool := (List.range n).all p
theorem allN_iff {n : Nat} {p : Nat → Bool} : allN n p = true ↔ ∀ i, i < n → p i = true := by unfold allN; simp
theorem allN_no {n k : Nat} {p : Nat → Bool} (hk : k < n) (h : p k = false) : allN n p = false := by
  rw [Bool.eq_false_iff]; intro ha; rw [allN_iff.1 ha k hk] at h; exact absurd h (by simp)
theorem allN_eq {n m : Nat} {p q : Nat → Bool} (h : (∀ i, i < n → p i = true) ↔ (∀ i, i < m → q i = true)) : allN n p = allN m q := by
  rw [Bool.eq_iff_iff, allN_iff, allN_iff]; exact h
theorem all_cnt {ρ : Type} {n : Nat} {p : Nat → Bool} {no : ρ} {f : Nat → Unit → (Unit → Option ρ) → (Unit → Option ρ) → Option ρ} {fin : Unit → Option ρ}
    (step : ∀ k nx, k < n → (p k = false → f k () nx fin = some no) ∧ (p k = true → f k () nx fin = nx ())) : cntK f n 0 () fin = if allN n p = true then fin () else some no := by
  have key : ∀ m k, k + m = n → (∀ i, i < k → p i = true) → cntK f m k () fin = if allN n p = true then fin () else some no := by
    intro m
    induction m with
    | zero => intro k hk hu; obtain rfl : k = n := by omega
              rw [allN_iff.2 hu]; rfl
    | succ m ih =>
      intro k hk hu
      obtain ⟨h1, h2⟩ := step k (fun s' => cntK f m (k + 1) s' fin) (by omega)
      show f k () _ fin = _
      cases hp : p k with
      | false => rw [h1 hp, allN_no (by omega) hp]; rfl
      | true =>
        rw [h2 hp]
        refine ih (k + 1) (by omega) (fun i hi => ?_)
        by_cases he : i = k
        · rw [he]; exact hp
        · exact hu i (by omega)
  exact key n 0 (by omega) (fun i hi => by omega)
theorem lp_ex {σ ρ : Type} {f : σ → (σ → Option ρ) → (σ → Option ρ) → Option ρ} {fin : σ → Option ρ} {Q : ρ → Prop} {n : Nat} (I : Nat → σ → Prop)
    (step : ∀ k s nx, k < n → I k s → (∀ s', I (k + 1) s' → ∃ r, nx s' = some r ∧ Q r) → ∃ r, f s nx fin = some r ∧ Q r) (done : ∀ s nx, I n s → ∃ r, f s nx fin = some r ∧ Q r) :
    ∀ fuel k s, k ≤ n → n - k < fuel → I k s → ∃ r, loopK f fuel s fin = some r ∧ Q r := by
  intro fuel
  induction fuel with
  | zero => intro k s hk hf; omega
  | succ m ih =>
    intro k s hk hf hI
    show ∃ r, f s _ fin = some r ∧ Q r
    by_cases he : k = n
    · subst he; exact done s _ hI
    · exact step k s _ (by omega) hI (fun s' h' => ih (k + 1) s' (by omega) (by omega) h')
theorem all_lp {ρ : Type} {n : Nat} {p : Nat → Bool} {no : ρ} {f : Int → (Int → Option ρ) → (Int → Option ρ) → Option ρ} {fin : Int → Option ρ}
    (step : ∀ (k : Nat) nx, k < n → (p k = false → f (k : Int) nx fin = some no) ∧ (p k = true → f (k : Int) nx fin = nx ((k + 1 : Nat) : Int))) (stop : ∀ nx, f (n : Int) nx fin = fin (n : Int))
    (fuel : Nat) (hf : n < fuel) : loopK f fuel 0 fin = if allN n p = true then fin (n : Int) else some no := by
  have key : ∀ fuel k, k ≤ n → n - k < fuel → (∀ i, i < k → p i = true) → loopK f fuel (k : Int) fin = if allN n p = true then fin (n : Int) else some no := by
    intro fuel
    induction fuel with
    | zero => intro k hk hf; omega
    | succ m ih =>
      intro k hk hf hu
      show f (k : Int) _ fin = _
      by_cases he : k = n
      · subst he; rw [stop, allN_iff.2 hu]; rfl
      · obtain ⟨h1, h2⟩ := step k (fun s' => loopK f m s' fin) (by omega)
        cases hp : p k with
        | false => rw [h1 hp, allN_no (by omega) hp]; rfl
        | true =>
          rw [h2 hp]
          refine ih (k + 1) (by omega) (by omega) (fun i hi => ?_)
          by_cases he : i = k
          · rw [he]; exact hp
          · exact hu i (by omega)
  exact key fuel 0 (by omega) (by omega) (fun i hi => by omega)
theorem next_i {k : Nat} (h : k ≤ 9223372036854775806) : IntKind.i64.wrap ((k : Int) + 1) = ((k + 1 : Nat) : Int) := by rw [wrap_in (by omega) (by omega)]; omega
end Go.Proofs.Ytpcdaoeijlifmaa.QAll

/- Places for blocks on sheets: the plain functions of the program and of the reference agree, and the law answers true. (Q4See) No condition but those of each theorem. -/
namespace Go.Proofs.Ytpcdaoeijlifmaa.Q4See
set_option linter.unusedVariables false
set_option linter.unusedSimpArgs false
open Go.RowKit
open Go.Proofs.Ytpcdaoeijlifmaa.GoP Go.Proofs.Ytpcdaoeijlifmaa.PlainStamp Go.Proofs.Ytpcdaoeijlifmaa.QBase Go.Proofs.Ytpcdaoeijlifmaa.QLoop Go.Proofs.Ytpcdaoeijlifmaa.QStrs Go.Proofs.Ytpcdaoeijlifmaa.QSheet

/-- what is seen at a place, a point beside the rows -/
def see (l : List ByteArray) (r c : Int) : Int :=
  if 0 ≤ r ∧ r < (l.length : Int) ∧ 0 ≤ c ∧ c < ((rw_ l r.toNat).size : Int) then ((ch (rw_ l r.toNat) c.toNat).toNat : Int) else 46
theorem see_in {l : List ByteArray} {i j : Nat} (h1 : i < l.length) (h2 : j < (rw_ l i).size) : see l (i : Int) (j : Int) = ((ch (rw_ l i) j).toNat : Int) := by
  unfold see
  rw [Int.toNat_natCast, Int.toNat_natCast, if_pos ⟨by omega, by omega, by omega, by omega⟩]
theorem row_size {l : List ByteArray} (hs : ∀ s ∈ l, s.size ≤ 1048576) {i : Nat} (h : i < l.length) : (rw_ l i).size ≤ 1048576 := by
  obtain ⟨r, hr, hi, hd⟩ := at_row h
  rw [show rw_ l i = r from hd]; exact hs r (List.mem_of_getElem? hr)
theorem inB_of2 {n a b : Int} : inB n a b = decide (a ≤ n ∧ n ≤ b) := by
  unfold inB; rfl
theorem seenAt_eq (l : List ByteArray) (r c : Int) (hl : l.length ≤ 1048576) (hs : ∀ s ∈ l, s.size ≤ 1048576) : GiSeenAt.P l r c = some (see l r c) := by
  simp only [GiSeenAt.P, within_eq, Option.bind_some, letK, joinK, appK, iteK_if]
  rw [wrap_in (by omega) (by omega)]
  by_cases hr : 0 ≤ r ∧ r < (l.length : Int)
  · obtain ⟨i, rfl⟩ : ∃ i : Nat, r = i := ⟨r.toNat, by omega⟩
    have hi : i < l.length := by omega
    obtain ⟨y, hy, hiy, hd⟩ := at_row hi
    have hsz := hs y (List.mem_of_getElem? hy)
    have e1 : inB (i : Int) 0 ((l.length : Int) - 1) = true := by unfold inB; simp; omega
    simp only [e1, hiy, Option.bind_some, Bool.not_true, Bool.false_eq_true, if_false]
    rw [wrap_in (by omega) (by omega)]
    by_cases hc : 0 ≤ c ∧ c < (y.size : Int)
    · obtain ⟨j, rfl⟩ : ∃ j : Nat, c = j := ⟨c.toNat, by omega⟩
      obtain ⟨b, hb, hib, hdb⟩ := at_list (s := y) (k := j) (by omega)
      have e2 : inB (j : Int) 0 ((y.size : Int) - 1) = true := by unfold inB; simp; omega
      simp only [e2, hib, Option.bind_some, Bool.not_true, Bool.false_eq_true, if_false]
      rw [see_in hi (by rw [show rw_ l i = y from hd]; omega), show rw_ l i = y from hd, show ch y j = b from hdb]
    · have e2 : inB c 0 ((y.size : Int) - 1) = false := by unfold inB; simp; omega
      simp only [e2, Bool.not_false, if_true]
      unfold see
      rw [Int.toNat_natCast, show rw_ l i = y from hd, if_neg (by omega)]
  · have e1 : inB r 0 ((l.length : Int) - 1) = false := by unfold inB; simp; omega
    simp only [e1, Bool.not_false, if_true]
    unfold see
    rw [if_neg (by omega)]
def okp (x y : Int) : Bool := x == 46 || (y == 46 || x == y)
def agreeB (l m : List ByteArray) (d r : Int) : Bool := allN m.length fun i => allN (rw_ m i).size fun j => okp (see l (d + i) (r + j)) ((ch (rw_ m i) j).toNat : Int)
theorem agree_eq (l m : List ByteArray) (d r : Int) (hl : l.length ≤ 1048576) (hs : ∀ s ∈ l, s.size ≤ 1048576) (hm : m.length ≤ 1048576) (hms : ∀ s ∈ m, s.size ≤ 1048576) (hd : -5 ≤ d ∧ d ≤ 1048576) (hr : -5 ≤ r ∧ r ≤ 1048576) :
    GiAgree.P l m d r = some (agreeB l m d r) := by
  simp only [GiAgree.P]
  rw [all_cnt (p := fun i => allN (rw_ m i).size fun j => okp (see l (d + i) (r + j)) ((ch (rw_ m i) j).toNat : Int)) (no := false)]
  · unfold agreeB
    cases allN m.length _ <;> rfl
  · intro k nx hk
    obtain ⟨y, hy, hi, hdy⟩ := at_row hk
    have hsz := hms y (List.mem_of_getElem? hy)
    simp only [GiAgree.l0, hi, Option.bind_some, show rw_ m k = y from hdy]
    rw [guardK_pos (by omega), all_cnt (p := fun j => okp (see l (d + k) (r + j)) ((ch y j).toNat : Int)) (no := false)]
    · cases allN y.size _ <;> simp [GiAgree.e1, appK]
    · intro j nx2 hj
      obtain ⟨b, hb, hib, hdb⟩ := at_list hj
      simp only [GiAgree.l1, hib, Option.bind_some, letK, joinK, appK, iteK_if]
      rw [wrap_in (by omega) (by omega), wrap_in (by omega) (by omega), seenAt_eq l _ _ hl hs, show ch y j = b from hdb]
      simp only [Option.bind_some]
      unfold okp
      by_cases h1 : see l (d + k) (r + j) = 46
      · simp [h1]
      · by_cases h2 : (b.toNat : Int) = 46
        · simp [h1, h2]
        · by_cases h3 : see l (d + k) (r + j) = (b.toNat : Int)
          · simp [h1, h2, h3]
          · simp [h1, h2, h3]
theorem rowsB_parts {l : List ByteArray} {m : Nat} (h : rowsB l (m : Int) = true) : 1 ≤ l.length ∧ l.length ≤ m ∧ 1 ≤ (rw_ l 0).size ∧ (rw_ l 0).size ≤ m ∧ ∀ i, i < l.length → (rw_ l i).size = (rw_ l 0).size := by
  unfold rowsB at h
  simp only [Bool.and_eq_true] at h
  obtain ⟨h1, h2, h3⟩ := h
  have p1 := inB_pos h1; have p2 := inB_pos h2
  refine ⟨by omega, by omega, by omega, by omega, fun i hi => ?_⟩
  have := allN_iff.1 h3 i hi
  unfold rowB at this
  simp only [Bool.and_eq_true, decide_eq_true_eq] at this
  exact this.1
end Go.Proofs.Ytpcdaoeijlifmaa.Q4See

/- Places for blocks on sheets: the plain functions of the program and of the reference agree, and the law answers true. (Q4Fits) No condition but those of each theorem. -/
namespace Go.Proofs.Ytpcdaoeijlifmaa.Q4Fits
set_option linter.unusedVariables false
set_option linter.unusedSimpArgs false
open Go.RowKit
open Go.Proofs.Ytpcdaoeijlifmaa.GoP Go.Proofs.Ytpcdaoeijlifmaa.PlainStamp Go.Proofs.Ytpcdaoeijlifmaa.QBase Go.Proofs.Ytpcdaoeijlifmaa.QLoop Go.Proofs.Ytpcdaoeijlifmaa.QStrs Go.Proofs.Ytpcdaoeijlifmaa.QSheet Go.Proofs.Ytpcdaoeijlifmaa.Q4See

def fitB (l m : List ByteArray) (r c : Int) : Bool := inB r 0 ((l.length : Int) - m.length) && (inB c 0 (((rw_ l 0).size : Int) - (rw_ m 0).size) && agreeB l m r c)
theorem fits_impl {l m : List ByteArray} (hl : rowsB l (5 : Nat) = true) (hm : rowsB m (3 : Nat) = true) (hls : ∀ s ∈ l, s.size ≤ 1048576) (hms : ∀ s ∈ m, s.size ≤ 1048576) (r c : Nat) (hr : r < 5) (hc : c < 5) :
    GiFits.P l m (r : Int) (c : Int) = some (fitB l m r c) := by
  obtain ⟨a1, a2, a3, a4, a5⟩ := rowsB_parts hl
  obtain ⟨b1, b2, b3, b4, b5⟩ := rowsB_parts hm
  obtain ⟨x, hx, hxi, hdx⟩ := at_row (l := l) (k := 0) (by omega)
  obtain ⟨y, hy, hyi, hdy⟩ := at_row (l := m) (k := 0) (by omega)
  have ex : (rw_ l 0).size = x.size := by rw [show rw_ l 0 = x from hdx]
  have ey : (rw_ m 0).size = y.size := by rw [show rw_ m 0 = y from hdy]
  simp only [Int.ofNat_zero] at hxi hyi
  simp only [GiFits.P, within_eq, Option.bind_some, letK, joinK, appK, iteK_if, fitB]
  rw [wrap_in (x := (l.length : Int) - m.length) (by omega) (by omega)]
  cases inB (r : Int) 0 ((l.length : Int) - m.length) with
  | false => simp
  | true =>
    have hxi' : idx l 0 = some x := hxi
    have hyi' : idx m 0 = some y := hyi
    simp only [if_true, hxi', hyi', Option.bind_some, Bool.true_and]
    rw [wrap_in (x := (x.size : Int) - y.size) (by omega) (by omega), ex, ey]
    cases inB (c : Int) 0 ((x.size : Int) - y.size) with
    | false => simp
    | true => simp [agree_eq l m r c (by omega) hls (by omega) hms (by omega) (by omega)]
theorem okp_is (x y : Int) : okp x y = !((y != 46) && ((x != 46) && (y != x))) := by
  unfold okp
  by_cases h1 : x = 46
  · simp [h1]
  · by_cases h2 : y = 46
    · simp [h2]
    · by_cases h3 : x = y
      · simp [h3]
      · have e1 : (x == 46) = false := by simpa using h1
        have e2 : (y == 46) = false := by simpa using h2
        have e3 : (x == y) = false := by simpa using h3
        have e4 : (y == x) = false := by simpa using fun h : y = x => h3 h.symm
        simp [bne, e1, e2, e3, e4]
theorem fits_spec {l m : List ByteArray} (hl : rowsB l (5 : Nat) = true) (hm : rowsB m (3 : Nat) = true) (r c : Nat) (hr : r < 5) (hc : c < 5) (fuel : Nat) (hf : 10 ≤ fuel) :
    GsL4Fits.P fuel l m (r : Int) (c : Int) = some (fitB l m r c) := by
  obtain ⟨a1, a2, a3, a4, a5⟩ := rowsB_parts hl
  obtain ⟨b1, b2, b3, b4, b5⟩ := rowsB_parts hm
  obtain ⟨x, hx, hxi, hdx⟩ := at_row (l := l) (k := 0) (by omega)
  obtain ⟨y, hy, hyi, hdy⟩ := at_row (l := m) (k := 0) (by omega)
  have ex : (rw_ l 0).size = x.size := by rw [show rw_ l 0 = x from hdx]
  have ey : (rw_ m 0).size = y.size := by rw [show rw_ m 0 = y from hdy]
  have hxi' : idx l 0 = some x := hxi
  have hyi' : idx m 0 = some y := hyi
  have n1 : ¬ ((r : Int) < 0) := by omega
  have n2 : ¬ ((c : Int) < 0) := by omega
  simp only [GsL4Fits.P, letK, joinK, appK, iteK_if, fitB, n1, n2, decide_false, Bool.false_eq_true, if_false, hxi', hyi', Option.bind_some]
  rw [wrap_in (x := (l.length : Int) - m.length) (by omega) (by omega), wrap_in (x := (x.size : Int) - y.size) (by omega) (by omega), ex, ey]
  by_cases h1 : (r : Int) ≤ (l.length : Int) - m.length
  · by_cases h2 : (c : Int) ≤ (x.size : Int) - y.size
    · have e1 : inB (r : Int) 0 ((l.length : Int) - m.length) = true := inB_yes (by omega) h1
      have e2 : inB (c : Int) 0 ((x.size : Int) - y.size) = true := inB_yes (by omega) h2
      simp only [e1, e2, Bool.true_and, show ¬ ((l.length : Int) - m.length < r) by omega, show ¬ ((x.size : Int) - y.size < c) by omega, decide_false, Bool.false_eq_true, if_false]
      rw [all_lp (n := m.length) (p := fun i => allN (rw_ m i).size fun j => okp (see l ((r : Int) + i) ((c : Int) + j)) ((ch (rw_ m i) j).toNat : Int)) (no := false)]
      · show (if agreeB l m r c = true then _ else _) = _
        cases agreeB l m r c <;> simp [GsL4Fits.e0, letK]
      · intro i nx hi
        obtain ⟨u, hu, hui, hdu⟩ := at_row (l := m) (k := i) hi
        obtain ⟨v, hv, hvi, hdv⟩ := at_row (l := l) (k := r + i) (by omega)
        have su : (rw_ m i).size = u.size := by rw [show rw_ m i = u from hdu]
        have sv : (rw_ l (r + i)).size = v.size := by rw [show rw_ l (r + i) = v from hdv]
        have c1 := b5 i hi
        have c2 := a5 (r + i) (by omega)
        have hlt0 : (i : Int) < (m.length : Int) := by omega
        simp only [GsL4Fits.l0, letK, hlt0, decide_true, iteK_if, if_true]
        rw [all_lp (n := u.size) (p := fun j => okp (see l ((r : Int) + i) ((c : Int) + j)) ((ch (rw_ m i) j).toNat : Int)) (no := false)]
        · rw [show rw_ m i = u from hdu]
          simp only [GsL4Fits.e1, letK, appK]
          rw [next_i (by omega)]
          exact ⟨fun h => by rw [if_neg (by rw [h]; simp)], fun h => by rw [if_pos h]⟩
        · intro j nx2 hj
          obtain ⟨p, hp, hpi, hdp⟩ := at_list (s := u) (k := j) hj
          obtain ⟨q, hq, hqi, hdq⟩ := at_list (s := v) (k := c + j) (by omega)
          have hlt1 : (j : Int) < (u.size : Int) := by omega
          have es : see l ((r : Int) + i) ((c : Int) + j) = (q.toNat : Int) := by
            have := see_in (l := l) (i := r + i) (j := c + j) (by omega) (by rw [sv]; omega)
            rw [show rw_ l (r + i) = v from hdv, show ch v (c + j) = q from hdq] at this
            rw [← this]
            congr 1
          have ep : ch (rw_ m i) j = p := by rw [show rw_ m i = u from hdu]; exact hdp
          simp only [GsL4Fits.l1, letK, hui, Option.bind_some, hlt1, decide_true, iteK_if, if_true, hpi]
          rw [wrap_in (x := (r : Int) + i) (by omega) (by omega), wrap_in (x := (c : Int) + j) (by omega) (by omega), show (r : Int) + i = ((r + i : Nat) : Int) by omega, show (c : Int) + j = ((c + j : Nat) : Int) by omega]
          rw [show ((r + i : Nat) : Int) = (r : Int) + i by omega, show ((c + j : Nat) : Int) = (c : Int) + j by omega, es, ep, okp_is]
          have hvi' : idx l ((r : Int) + i) = some v := by rw [show (r : Int) + i = ((r + i : Nat) : Int) by omega]; exact hvi
          have hqi' : idx v.toList ((c : Int) + j) = some q := by rw [show (c : Int) + j = ((c + j : Nat) : Int) by omega]; exact hqi
          simp only [hvi', hqi', Option.bind_some, joinK, appK]
          rw [next_i (by omega)]
          cases h1 : ((p.toNat : Int) != 46) <;> cases h2 : ((q.toNat : Int) != 46) <;> cases h3 : ((p.toNat : Int) != (q.toNat : Int)) <;> simp
        · intro nx2
          simp [GsL4Fits.l1, letK, hui, appK, iteK_if]
        · omega
      · intro nx
        simp [GsL4Fits.l0, letK, appK, iteK_if]
      · omega
    · have e2 : inB (c : Int) 0 ((x.size : Int) - y.size) = false := inB_no (by omega)
      simp [e2, show ¬ ((l.length : Int) - m.length < r) by omega, show ((x.size : Int) - y.size < c) by omega]
  · have e1 : inB (r : Int) 0 ((l.length : Int) - m.length) = false := inB_no (by omega)
    simp [e1, show ((l.length : Int) - m.length < r) by omega]
end Go.Proofs.Ytpcdaoeijlifmaa.Q4Fits

/- Places for blocks on sheets: the plain functions of the program and of the reference agree, and the law answers true. (Q4Places) No condition but those of each theorem. -/
namespace Go.Proofs.Ytpcdaoeijlifmaa.Q4Places
set_option linter.unusedVariables false
set_option linter.unusedSimpArgs false
open Go.RowKit
open Go.Proofs.Ytpcdaoeijlifmaa.GoP Go.Proofs.Ytpcdaoeijlifmaa.PlainStamp Go.Proofs.Ytpcdaoeijlifmaa.QBase Go.Proofs.Ytpcdaoeijlifmaa.QLoop Go.Proofs.Ytpcdaoeijlifmaa.QStrs Go.Proofs.Ytpcdaoeijlifmaa.QSheet Go.Proofs.Ytpcdaoeijlifmaa.Q4See Go.Proofs.Ytpcdaoeijlifmaa.Q4Fits Go.Proofs.Ytpcdaoeijlifmaa.PIntA2

def pv (f : Nat → Nat → Bool) (r j : Nat) : List IntA2 := ((List.range j).filter fun c : Nat => f r c).map fun c : Nat => (⟨(r : Int), (c : Int)⟩ : IntA2)
theorem pv_succ (f : Nat → Nat → Bool) (r j : Nat) : pv f r (j + 1) = if f r j = true then pv f r j ++ [⟨(r : Int), (j : Int)⟩] else pv f r j := by
  unfold pv
  rw [List.range_succ, List.filter_append, List.map_append]
  cases h : f r j <;> simp [List.filter, h]
theorem pv_len (f : Nat → Nat → Bool) (r j : Nat) : (pv f r j).length ≤ j := by
  unfold pv
  rw [List.length_map]
  have := List.length_filter_le (fun c : Nat => f r c) (List.range j)
  rw [List.length_range] at this
  exact this
def pvs (f : Nat → Nat → Bool) (W n : Nat) : List IntA2 := (List.range n).flatMap fun r => pv f r W
theorem pvs_succ (f : Nat → Nat → Bool) (W n : Nat) : pvs f W (n + 1) = pvs f W n ++ pv f n W := by
  unfold pvs
  rw [List.range_succ, List.flatMap_append]
  simp
theorem pvs_len (f : Nat → Nat → Bool) (W n : Nat) : (pvs f W n).length ≤ W * n := by
  induction n with
  | zero => simp [pvs]
  | succ n ih =>
    rw [pvs_succ, List.length_append]
    have := pv_len f n W
    rw [Nat.mul_succ]
    omega
def plR (l m : List ByteArray) : List IntA2 := pvs (fun r c => fitB l m r c) (rw_ l 0).size l.length
theorem on_impl {l m : List ByteArray} (hl : rowsB l (5 : Nat) = true) (hm : rowsB m (3 : Nat) = true) (hls : ∀ s ∈ l, s.size ≤ 1048576) (hms : ∀ s ∈ m, s.size ≤ 1048576) : GiPlacesOn.P l m = some (plR l m) := by
  obtain ⟨a1, a2, a3, a4, a5⟩ := rowsB_parts hl
  simp only [GiPlacesOn.P]
  refine cnt_is _ (fun r o => o = pvs (fun r c => fitB l m r c) (rw_ l 0).size r ∧ o.length ≤ 5 * r) ?_ ?_ [] ⟨rfl, by simp⟩
  · rintro r o nx hr ⟨h1, h2⟩ hn
    obtain ⟨x, hx, hxi, hdx⟩ := at_row (l := l) (k := r) hr
    have hw := a5 r hr
    rw [show rw_ l r = x from hdx] at hw
    simp only [GiPlacesOn.l0, letK, hxi, Option.bind_some]
    rw [guardK_pos (by omega)]
    refine cnt_is _ (fun j o => o = pvs (fun r c => fitB l m r c) (rw_ l 0).size r ++ pv (fun r c => fitB l m r c) r j ∧ o.length ≤ 5 * r + j) ?_ ?_ o ⟨by rw [h1]; simp [pv], by omega⟩
    · rintro j o nx2 hj ⟨g1, g2⟩ hn2
      have hd := pv_succ (fun r c => fitB l m r c) r j
      simp only [GiPlacesOn.l1, letK, fits_impl hl hm hls hms r j (by omega) (by omega), Option.bind_some, appK, iteK_if]
      cases hb : fitB l m r j with
      | true =>
        rw [hb, if_pos rfl] at hd
        rw [if_pos rfl, guardK_pos (by omega)]
        exact hn2 _ ⟨by rw [g1, hd, List.append_assoc], by rw [List.length_append]; show o.length + 1 ≤ _; omega⟩
      | false =>
        rw [hb, if_neg (by simp)] at hd
        rw [if_neg (by simp)]
        exact hn2 _ ⟨by rw [g1, hd], by omega⟩
    · rintro o ⟨g1, g2⟩
      simp only [GiPlacesOn.e1, letK, appK]
      refine hn _ ⟨?_, by omega⟩
      rw [g1, pvs_succ, hw]
  · rintro o ⟨h1, h2⟩
    simp only [GiPlacesOn.e0, letK, h1]
    rfl
theorem on_spec {l m : List ByteArray} (hl : rowsB l (5 : Nat) = true) (hm : rowsB m (3 : Nat) = true) (fuel : Nat) (hf : 10 ≤ fuel) : GsL4Places.P fuel l m = some (plR l m) := by
  obtain ⟨a1, a2, a3, a4, a5⟩ := rowsB_parts hl
  obtain ⟨x, hx, hxi, hdx⟩ := at_row (l := l) (k := 0) (by omega)
  have hxi' : idx l 0 = some x := hxi
  have ex : (rw_ l 0).size = x.size := by rw [show rw_ l 0 = x from hdx]
  simp only [GsL4Places.P]
  refine cnt_is _ (fun r o => o = pvs (fun r c => fitB l m r c) (rw_ l 0).size r ∧ o.length ≤ 5 * r) ?_ ?_ [] ⟨rfl, by simp⟩
  · rintro r o nx hr ⟨h1, h2⟩ hn
    simp only [GsL4Places.l0, letK]
    obtain ⟨y, hy, rfl⟩ := Go.Proofs.Ytpcdaoeijlifmaa.QAll.lp_ex (f := GsL4Places.l1 l m fuel r) (fin := GsL4Places.e1 nx) (Q := fun y => y = plR l m) (n := x.size) (fun j (st : List IntA2 × Int) => st.2 = (j : Int) ∧ st.1 = pvs (fun r c => fitB l m r c) (rw_ l 0).size r ++ pv (fun r c => fitB l m r c) r j ∧ st.1.length ≤ 5 * r + j) (by
      rintro j ⟨o, c⟩ nx2 hj ⟨g0, g1, g2⟩ hn2
      dsimp only at g0 g1 g2
      subst g0
      have hd := pv_succ (fun r c => fitB l m r c) r j
      have hc2 : decide ((j : Int) < (x.size : Int)) = true := by simp; omega
      simp only [GsL4Places.l1, unp2, letK, hxi', Option.bind_some, hc2, iteK_if, if_true, fits_spec hl hm r j (by omega) (by omega) fuel hf, appK]
      rw [next_i (by omega)]
      cases hb : fitB l m r j with
      | true =>
        rw [hb, if_pos rfl] at hd
        rw [if_pos rfl, guardK_pos (by omega)]
        exact hn2 _ ⟨rfl, by dsimp only; rw [g1, hd, List.append_assoc], by dsimp only; rw [List.length_append]; show o.length + 1 ≤ _; omega⟩
      | false =>
        rw [hb, if_neg (by simp)] at hd
        rw [if_neg (by simp)]
        exact hn2 _ ⟨rfl, by dsimp only; rw [g1, hd], by dsimp only; omega⟩) (by
      rintro ⟨o, c⟩ nx2 ⟨g0, g1, g2⟩
      dsimp only at g0 g1 g2
      subst g0
      have hc2 : decide ((x.size : Int) < (x.size : Int)) = false := by simp
      simp only [GsL4Places.l1, unp2, letK, hxi', Option.bind_some, hc2, iteK_if, Bool.false_eq_true, if_false, appK, GsL4Places.e1]
      have := hn o ⟨by rw [g1, pvs_succ, ex], by omega⟩
      exact ⟨_, this, rfl⟩) fuel 0 (o, 0) (by omega) (by omega) ⟨rfl, by rw [h1]; simp [pv], by simpa using h2⟩
    exact hy
  · rintro o ⟨h1, h2⟩
    simp only [GsL4Places.e0, letK, h1]
    rfl
theorem places_both (l m : List ByteArray) (fuel : Nat) (hf : 1048577 ≤ fuel) (hls : ∀ s ∈ l, s.size ≤ 1048576) (hms : ∀ s ∈ m, s.size ≤ 1048576) :
    ∃ r, GiPlacesFor.P l m = some r ∧ GsPlacesFor.P fuel l m = some r ∧ r.1.length ≤ 25 := by
  simp only [GiPlacesFor.P, GsPlacesFor.P, GiIsSheet.P, GiIsBlock.P, GsIsSheet.P, GsIsBlock.P, impl_eq l 5 hls, impl_eq m 3 hms, spec_eq l 5 fuel hf hls, spec_eq m 3 fuel hf hms, Option.bind_some, letK, joinK, appK, iteK_if]
  cases h1 : rowsB l 5 with
  | false => exact ⟨([], false), by simp, by simp, by simp⟩
  | true =>
    cases h2 : rowsB m 3 with
    | false => exact ⟨([], false), by simp, by simp, by simp⟩
    | true =>
      refine ⟨(plR l m, true), by simp [on_impl h1 h2 hls hms], by simp [on_spec h1 h2 fuel (by omega)], ?_⟩
      obtain ⟨a1, a2, a3, a4, a5⟩ := rowsB_parts (m := 5) h1
      have := pvs_len (fun r c => fitB l m r c) (rw_ l 0).size l.length
      have h3 : (rw_ l 0).size * l.length ≤ 5 * 5 := Nat.mul_le_mul a4 a2
      show (plR l m).length ≤ 25
      unfold plR
      omega
end Go.Proofs.Ytpcdaoeijlifmaa.Q4Places

/- Chapter 6: values that no kind has: the plain functions of the program and of the reference agree, and the law answers true. (QHA2) No condition but those of each theorem. -/
namespace Go.Proofs.Ytpcdaoeijlifmaa.QHA2
set_option linter.unusedVariables false
set_option linter.unusedSimpArgs false
open Go.RowKit
open Go.Proofs.Ytpcdaoeijlifmaa.GoP Go.Proofs.Ytpcdaoeijlifmaa.PlainStamp Go.Proofs.Ytpcdaoeijlifmaa.QBase Go.Proofs.Ytpcdaoeijlifmaa.QLoop Go.Proofs.Ytpcdaoeijlifmaa.QAll Go.Proofs.Ytpcdaoeijlifmaa.PIntA2

theorem eqA2 (a : IntA2) : GlEqIntA2.P a a = some true := by
  obtain ⟨x, y⟩ := a
  simp only [GlEqIntA2.P, unIntA2]
  refine cnt_is true (fun _ _ => True) ?_ (fun s _ => rfl) () trivial
  rintro k ⟨⟩ nx hk _ hn
  obtain ⟨u, hu, hui⟩ := at_lt (l := [x, y]) (k := k) hk
  simp only [GlEqIntA2.l0, hui, Option.bind_some, letK, appK, iteK_if]
  rw [if_neg (by simp)]
  exact hn () trivial
theorem eqA (l : List IntA2) : GlEqIntA2S.P l l = some true := by
  simp only [GlEqIntA2S.P, letK, iteK_if]
  rw [if_neg (by simp)]
  refine cnt_is true (fun _ _ => True) ?_ (fun s _ => rfl) () trivial
  rintro k ⟨⟩ nx hk _ hn
  obtain ⟨x, hx, hi⟩ := at_lt (l := l) (k := k) hk
  simp only [GlEqIntA2S.l0, hi, Option.bind_some, unIntA2, eqA2, letK, appK, iteK_if]
  rw [if_neg (by simp)]
  exact hn () trivial
def up2 (n : Nat) : List IntA2 := (List.range n).map fun i : Nat => ⟨2 * (i : Int) + 1, 2 * (i : Int) + 2⟩
theorem up2_at {n k : Nat} (h : k < n) : (up2 n)[k]? = some ⟨2 * (k : Int) + 1, 2 * (k : Int) + 2⟩ := by unfold up2; simp [h]
theorem up2_len (n : Nat) : (up2 n).length = n := by simp [up2]
theorem markA (l : List IntA2) (hl : l.length ≤ 1048576) : GlMarkIntA2S.P l 1 = some (2 * (l.length : Int) + 1, up2 l.length) := by
  simp only [GlMarkIntA2S.P]
  refine cnt_is _ (fun k (s : List IntA2 × Int) => s.1.length = l.length ∧ s.2 = 2 * (k : Int) + 1 ∧ ∀ i : Nat, i < k → s.1[i]? = some ⟨2 * (i : Int) + 1, 2 * (i : Int) + 2⟩) ?_ ?_ (l, 1) ⟨rfl, rfl, fun i hi => by omega⟩
  · rintro k ⟨a, c⟩ nx hk ⟨h1, h2, h3⟩ hn
    dsimp only at h1 h2 h3
    simp only [GlMarkIntA2S.l0, unp2]
    refine cnt_is _ (fun j (s : List IntA2 × Int) => s.1.length = l.length ∧ s.2 = c + (j : Int) ∧ (∀ i : Nat, i < k → s.1[i]? = some ⟨2 * (i : Int) + 1, 2 * (i : Int) + 2⟩) ∧ ∃ x, s.1[k]? = some x ∧ (0 < j → x.x0 = c) ∧ (1 < j → x.x1 = c + 1)) ?_ ?_ (a, c) ⟨h1, by simp, h3, by
      obtain ⟨x, hx, _⟩ := at_lt (l := a) (k := k) (by omega)
      exact ⟨x, hx, fun h => by omega, fun h => by omega⟩⟩
    · rintro j ⟨b, d⟩ nx2 hj ⟨g1, g2, g3, x, g4, g5, g6⟩ hn2
      dsimp only at g1 g2 g3 g4
      have gi : idx b (k : Int) = some x := by rw [idx_nat, g4]
      obtain ⟨p, q⟩ := x
      obtain ⟨u, hu, hui⟩ := at_lt (l := [p, q]) (k := j) hj
      simp only [GlMarkIntA2S.l1, unp2, gi, Option.bind_some, unIntA2, hui, letK, appK]
      rw [wrap_in (by omega) (by omega)]
      have hkb := (List.getElem?_eq_some_iff.1 g4).1
      refine hn2 _ ⟨by dsimp only; rw [List.length_set]; exact g1, by dsimp only; omega, fun i hi => by dsimp only; rw [List.getElem?_set_ne (by omega)]; exact g3 i hi, _, by dsimp only; rw [List.getElem?_set_self hkb], ?_, ?_⟩
      · intro _
        have : j = 0 ∨ j = 1 := by omega
        rcases this with rfl | rfl
        · show d = c; omega
        · exact g5 (by omega)
      · intro _
        have : j = 1 := by omega
        subst this
        show d = c + 1; omega
    · rintro ⟨b, d⟩ ⟨g1, g2, g3, x, g4, g5, g6⟩
      dsimp only at g1 g2 g3 g4
      simp only [GlMarkIntA2S.e1, unp2, appK]
      refine hn _ ⟨g1, by dsimp only; omega, fun i hi => ?_⟩
      dsimp only
      by_cases he : i = k
      · subst he
        obtain ⟨p, q⟩ := x
        have e1 := g5 (by omega)
        have e2 := g6 (by omega)
        dsimp only at e1 e2
        rw [g4, e1, e2, h2]
        simp; omega
      · exact g3 i (by omega)
  · rintro ⟨a, c⟩ ⟨h1, h2, h3⟩
    dsimp only at h1 h2 h3
    have : a = up2 l.length := by
      apply List.ext_getElem?
      intro i
      by_cases hi : i < l.length
      · rw [h3 i hi, up2_at hi]
      · rw [List.getElem?_eq_none (by omega), List.getElem?_eq_none (by rw [up2_len]; omega)]
    simp only [GlMarkIntA2S.e0, unp2]
    rw [this, h2]
theorem heldA (n : Nat) (hl : n ≤ 1048576) : GlHeldIntA2S.P (up2 n) 1 = some (2 * (n : Int) + 1) := by
  simp only [GlHeldIntA2S.P]
  refine cnt_is _ (fun k s => s = 2 * (k : Int) + 1) ?_ ?_ 1 rfl
  · intro k s nx hk hI hn
    rw [up2_len] at hk
    have hi : idx (up2 n) (k : Int) = some ⟨2 * (k : Int) + 1, 2 * (k : Int) + 2⟩ := by rw [idx_nat, up2_at hk]
    simp only [GlHeldIntA2S.l0, letK]
    refine cnt_is _ (fun j s' => s' = s + (j : Int)) ?_ ?_ s (by simp)
    · intro j s' nx2 hj hI2 hn2
      have : j = 0 ∨ j = 1 := by omega
      simp only [GlHeldIntA2S.l1, letK, hi, Option.bind_some, unIntA2]
      have hu : idx [2 * (k : Int) + 1, 2 * (k : Int) + 2] (j : Int) = some (2 * (k : Int) + 1 + (j : Int)) := by
        rcases this with rfl | rfl
        · rw [idx_nat]; simp
        · rw [idx_nat]; simp; omega
      simp only [hu, Option.bind_some, appK, iteK_if]
      rw [if_neg (by simp; omega), wrap_in (by omega) (by omega)]
      exact hn2 _ (by omega)
    · intro s' hI2
      simp only [GlHeldIntA2S.e1, letK, appK]
      exact hn _ (by omega)
  · intro s hI
    simp only [GlHeldIntA2S.e0, letK]
    rw [hI, up2_len]
end Go.Proofs.Ytpcdaoeijlifmaa.QHA2

/- Places for blocks on sheets: the plain functions of the program and of the reference agree, and the law answers true. (QL4Places) No condition but those of each theorem. -/
namespace Go.Proofs.Ytpcdaoeijlifmaa.QL4Places
set_option linter.unusedVariables false
set_option linter.unusedSimpArgs false
open Go.RowKit
open Go.Proofs.Ytpcdaoeijlifmaa.GoP Go.Proofs.Ytpcdaoeijlifmaa.PlainStamp Go.Proofs.Ytpcdaoeijlifmaa.QBase Go.Proofs.Ytpcdaoeijlifmaa.QLoop Go.Proofs.Ytpcdaoeijlifmaa.QStrs Go.Proofs.Ytpcdaoeijlifmaa.QSheet Go.Proofs.Ytpcdaoeijlifmaa.Q4Blk Go.Proofs.Ytpcdaoeijlifmaa.Q4Places Go.Proofs.Ytpcdaoeijlifmaa.QHA2 Go.Proofs.Ytpcdaoeijlifmaa.PIntA2

theorem markStr (l : List ByteArray) (hl : l.length ≤ 1048576) (c : Int) (h0 : 1 ≤ c) (h1 : c ≤ 10000000) : ∃ v l', GlMarkStringS.P l c = some (v, l') ∧ v = c + l.length := by
  obtain ⟨⟨v, l'⟩, h, hv⟩ : ∃ r : Int × List ByteArray, GlMarkStringS.P l c = some r ∧ r.1 = c + l.length := by
    simp only [GlMarkStringS.P]
    refine cnt_ex (n := l.length) (Q := fun r : Int × List ByteArray => r.1 = c + l.length) (fun k (s : List ByteArray × Int) => s.1.length = l.length ∧ s.2 = c + (k : Int)) ?_ ?_ l.length 0 (l, c) (by omega) ⟨rfl, by simp⟩
    · rintro k ⟨a, b⟩ nx hk ⟨h1, h2⟩ hn
      dsimp only at h1 h2
      obtain ⟨x, hx, hi⟩ := at_lt (l := a) (k := k) (by omega)
      have e : GlMarkText.P b = some (Go.Proofs.Ytpcdaoeijlifmaa.MarkStr.mt b.toNat) := by unfold GlMarkText.P; rw [if_pos (by omega)]
      simp only [GlMarkStringS.l0, unp2, e, hi, Option.bind_some, letK, appK]
      rw [wrap_in (by omega) (by omega)]
      exact hn _ ⟨by simpa using h1, by dsimp only; omega⟩
    · rintro ⟨a, b⟩ ⟨h1, h2⟩
      exact ⟨_, rfl, by dsimp only at h2 ⊢; omega⟩
  exact ⟨v, l', h, hv⟩
theorem law_places (fuel : Nat) (hf : 1048577 ≤ fuel) (l m : List ByteArray) (hfl : ∀ s ∈ l, s.size ≤ maxLen) (hfm : ∀ s ∈ m, s.size ≤ maxLen) (hl : l.length ≤ 9223372036854775807) (hm : m.length ≤ 9223372036854775807) : GlFnExactPlacesFor.P fuel l m = some true := by
  obtain ⟨v, e, h2, h3⟩ := szS l 1048576 (by omega) (by omega) hfl hl
  simp only [GlFnExactPlacesFor.P, e, Option.bind_some, letK, iteK_if]
  by_cases hv : v < 0
  · simp [hv]
  · obtain ⟨h4, h5⟩ := h3 (by omega)
    obtain ⟨v2, e2, g2, g3⟩ := szB m v (by omega) h2 hfm hm
    simp only [hv, decide_false, Bool.false_eq_true, if_false, e2, Option.bind_some]
    by_cases hv2 : v2 < 0
    · simp [hv2]
    · obtain ⟨g4, g5⟩ := g3 (by omega)
      obtain ⟨⟨a, b⟩, hi, hsp, hlen⟩ := places_both l m fuel hf h5 g5
      dsimp only at hlen
      obtain ⟨c1, l1, k1, k2⟩ := markStr l h4 1 (by omega) (by omega)
      obtain ⟨c2, l2, k3, k4⟩ := markStr m g4 c1 (by omega) (by omega)
      have k5 : ¬ c2 < 0 := by omega
      have kb : GlMarkBlock.P m c1 = some (c2, l2) := by simp only [GlMarkBlock.P, k3, bind2_some]
      have e1 : ¬ (2 * (a.length : Int) + 1 < 0) := by omega
      simp [hv2, toS l h4, eqS l, toB m g4, unBlock, eqB m, hi, hsp, eqA, k1, kb, k5, markA a (by omega), heldA a.length (by omega), e1, bind2, joinK, appK, iteK_if]
end Go.Proofs.Ytpcdaoeijlifmaa.QL4Places

/- A slice of strings or of integers that lies in a record that came in: the list that it reads as. No condition. -/
namespace Go.Proofs.Ytpcdaoeijlifmaa.OpenNest
set_option linter.unusedVariables false
open Go.Joins Go.ChangeShapes Go.WideShapes Go.RowKit Go.Deep Go.Proofs.Ytpcdaoeijlifmaa.Rowed
theorem len1 {l : List Value} (h : l.length = 1) : ∃ a, l = [a] := List.length_eq_one_iff.1 h
theorem len2 {l : List Value} (h : l.length = 2) : ∃ a b, l = [a, b] := by
  match l, h with
  | [a, b], _ => exact ⟨a, b, rfl⟩
theorem len3 {l : List Value} (h : l.length = 3) : ∃ a b c, l = [a, b, c] := by
  match l, h with
  | [a, b, c], _ => exact ⟨a, b, c, rfl⟩
theorem len4 {l : List Value} (h : l.length = 4) : ∃ a b c d, l = [a, b, c, d] := by
  match l, h with
  | [a, b, c, d], _ => exact ⟨a, b, c, d, rfl⟩
theorem len5 {l : List Value} (h : l.length = 5) : ∃ a b c d e, l = [a, b, c, d, e] := by
  match l, h with
  | [a, b, c, d, e], _ => exact ⟨a, b, c, d, e, rfl⟩
section
variable {H : Type} {enc : TypeId × Value → H} {P : Program} {w : World}
theorem one_strs {t e : TypeId} {fuel : Nat} {u : Value} {x : DataW H × List MemPlace} (ht : P.underlying t = some (.slice e)) (he : P.underlying e = some .string) (hc : P.cellsOf e = 1)
    (h : DataW.trod enc P w 0 (fun _ => true) true fuel t [u] = some x) :
    ∃ (a : Option Addr) (len cap : Nat) (l : List ByteArray), u = .slice a len cap ∧ Cells w 1 a len (l.map Value.string) ∧ l.length = len ∧ len ≤ maxLen ∧ ∀ s ∈ l, s.size ≤ maxLen := by
  rcases open_strings ht he hc h with ⟨hcs, _⟩ | ⟨x, l, c, zs, hcs, hxb, hl, hm, hz, hdat, hcell, hwz⟩
  · obtain rfl : u = .slice none 0 0 := by simpa using hcs
    exact ⟨none, 0, 0, [], rfl, Cells.nil_ _ _ _, rfl, by unfold maxLen; omega, by intro s hs; simp at hs⟩
  · obtain rfl : u = .slice (some x) l c := by simpa using hcs
    have hz' : zs.length = c := by simpa using hz
    refine ⟨some x, l, c, zs.take l, rfl, ⟨by rw [List.length_map, List.length_take]; omega, fun _ => ⟨x, rfl, fun j u hu => ?_⟩⟩, by rw [List.length_take]; omega, by omega, fun s hs => hwz s (List.mem_of_mem_take hs)⟩
    rw [List.getElem?_map] at hu
    cases hj : (zs.take l)[j]? with
    | none => rw [hj] at hu; simp at hu
    | some y =>
      rw [hj] at hu
      obtain rfl : Value.string y = u := by simpa using hu
      have hjl := (List.getElem?_eq_some_iff.1 hj).1
      rw [List.length_take] at hjl
      rw [List.getElem?_take_of_lt (by omega)] at hj
      rw [hcell j (by omega), List.getD_eq_getElem?_getD, hj]; rfl
theorem one_ints {t e : TypeId} {fuel : Nat} {u : Value} {x : DataW H × List MemPlace} (ht : P.underlying t = some (.slice e)) (he : P.underlying e = some (.int .i64)) (hc : P.cellsOf e = 1)
    (h : DataW.trod enc P w 0 (fun _ => true) true fuel t [u] = some x) :
    ∃ (a : Option Addr) (len cap : Nat) (l : List Int), u = .slice a len cap ∧ Cells w 1 a len (l.map (Value.int .i64)) ∧ l.length = len ∧ len ≤ maxLen ∧ ∀ n ∈ l, (Lit.int .i64 n).wf = true := by
  rcases open_ints ht he hc h with ⟨hcs, _⟩ | ⟨x, l, c, zs, hcs, hxb, hl, hm, hz, hdat, hcell, hwz⟩
  · obtain rfl : u = .slice none 0 0 := by simpa using hcs
    exact ⟨none, 0, 0, [], rfl, Cells.nil_ _ _ _, rfl, by unfold maxLen; omega, by intro s hs; simp at hs⟩
  · obtain rfl : u = .slice (some x) l c := by simpa using hcs
    have hz' : zs.length = c := by simpa using hz
    refine ⟨some x, l, c, zs.take l, rfl, ⟨by rw [List.length_map, List.length_take]; omega, fun _ => ⟨x, rfl, fun j u hu => ?_⟩⟩, by rw [List.length_take]; omega, by omega, fun s hs => hwz s (List.mem_of_mem_take hs)⟩
    rw [List.getElem?_map] at hu
    cases hj : (zs.take l)[j]? with
    | none => rw [hj] at hu; simp at hu
    | some y =>
      rw [hj] at hu
      obtain rfl : Value.int .i64 y = u := by simpa using hu
      have hjl := (List.getElem?_eq_some_iff.1 hj).1
      rw [List.length_take] at hjl
      rw [List.getElem?_take_of_lt (by omega)] at hj
      rw [hcell j (by omega), List.getD_eq_getElem?_getD, hj]; rfl
end
end Go.Proofs.Ytpcdaoeijlifmaa.OpenNest

