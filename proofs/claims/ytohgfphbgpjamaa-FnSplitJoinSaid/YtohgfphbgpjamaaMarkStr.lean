/- The contracts of the laws' helpers that mark a slice of strings and look whether the marks are held: markText, markStringS, heldStringS. Conditions: the marks begin at 1 or more; the slice is one that the caller has made. -/
import Derived.Test.YtohgfphbgpjamaaHelpStr
import Derived.Lib.ItoaLen
import Derived.Lib.ItoaMem
import Derived.Laws.IdiomStrings
import Derived.IntWalk
import Derived.Deep.RegionHeld3
namespace Go.Proofs.Ytohgfphbgpjamaa.MarkStr
set_option linter.unusedVariables false
open Go.RowKit
open Go.Proofs.Ytohgfphbgpjamaa.Rowed Go.Proofs.Ytohgfphbgpjamaa.HelpStr

/-- the mark of number k -/
def mt (k : Nat) : ByteArray := ⟨(109 :: Lib.decDigits k).toArray⟩

theorem ext_of {a b : ByteArray} (h : a.data.toList = b.data.toList) : a = b := by
  obtain ⟨⟨x⟩⟩ := a
  obtain ⟨⟨y⟩⟩ := b
  simp at h
  rw [h]
theorem add_str {P : Program} (a b c : ByteArray) (h : a.data.toList ++ b.data.toList = c.data.toList) (hl : c.data.toList.length ≤ 9223372036854775807) (W : World) :
    (Op.stringOp .add a b).run P W = .ok (.string c) W := by
  have e1 : a.data.toList.length = a.size := by simp
  have e2 : b.data.toList.length = b.size := by simp
  rw [← h, List.length_append, e1, e2] at hl
  rw [run_string_add_sum]
  · congr 2
    apply ext_of
    rw [← h]
    simp
  · exact hl
theorem dec_small (j : Nat) (h : j < 10) : Lib.decDigits j = [UInt8.ofNat (48 + j % 10)] := by
  rw [Lib.decDigits_one h, Nat.mod_eq_of_lt h]
theorem dec_step (j : Nat) (h : ¬ j < 10) : Lib.decDigits j = Lib.decDigits (j / 10) ++ [UInt8.ofNat (48 + j % 10)] := by
  rw [Lib.decDigits, dif_neg h]

/-- what is done when j is what is left: o -/
def Rel (k j : Nat) (o : List UInt8) : Prop := (if j = 0 then [] else Lib.decDigits j) ++ o = Lib.decDigits k
theorem Rel.next {k j : Nat} {o : List UInt8} (h : Rel k j o) (hj : 0 < j) : Rel k (j / 10) (UInt8.ofNat (48 + j % 10) :: o) := by
  unfold Rel at h ⊢
  rw [if_neg (by omega)] at h
  by_cases h10 : j < 10
  · rw [if_pos (by omega)]
    rw [dec_small j h10] at h
    exact h
  · rw [if_neg (by omega)]
    rw [dec_step j h10, List.append_assoc] at h
    exact h
theorem Rel.len {k j : Nat} {o : List UInt8} (h : Rel k j o) (hk : k ≤ 1000000000) : o.length ≤ 20 := by
  have h1 := congrArg List.length h
  rw [List.length_append, Lib.decDigits_length] at h1
  have := Lib.nDigits_le20 k (by omega)
  omega
theorem byte_num (j : Nat) : ((UInt8.ofNat (48 + j % 10)).toNat : Int) = 48 + (j : Int) % 10 := by
  rw [UInt8.toNat_ofNat']; omega

theorem conv_one {P : Program} (W : World) (src dst e : TypeId) (c : UInt8) (hs : P.underlying src = some (.slice e)) (he : P.underlying e = some (.int .u8)) (hd : P.underlying dst = some .string) :
    (convert src dst (.slice (some ⟨W.heap.size, 0, none⟩) 1 1)).run P (W.alloc (.cells #[.int .u8 (c.toNat : Int)] e)) = .ok (.string ⟨#[c]⟩) (W.alloc (.cells #[.int .u8 (c.toNat : Int)] e)) := by
  have := run_convert_bytes_back (P := P) (W.alloc (.cells #[.int .u8 (c.toNat : Int)] e)) src dst e ⟨W.heap.size, 0, none⟩ 1 [c] hs he hd (fun j hj => by
    have : j = 0 := by simpa using hj
    subst this
    rw [show (⟨W.heap.size, 0, none⟩ : Addr).add 0 = ⟨W.heap.size, 0, none⟩ from rfl, World.cell?_alloc_new]
    rfl)
  exact this

set_option maxHeartbeats 1000000 in
theorem markText_any (k : Nat) (w : World) (h1 : 1 ≤ k) (h2 : k ≤ 1000000000) :
    Calls Try.prog 34 #[.int .i64 (k : Int)] w fun e w' => e = .returned (.string (mt k)) ∧ Below w.heap.size w w' := by
  have hk0 : decide (k = 0) = false := by simp; omega
  go_enter Try.func34, Try.ntmps34
  go_wp2
  go_loopw [0, 3] (fun t o wr => ∃ (j : Nat) (q : ByteArray), j ≤ k ∧ t = .int .i64 j ∧ o = .string q ∧ Hid (Rel k j q.data.toList) ∧ Hid (Below w.heap.size w wr)) (fun t _ _ => (intOf t).toNat)
  case atStart => exact ⟨k, ⟨#[]⟩, Nat.le_refl _, rfl, rfl, Lib.hid (by unfold Rel; rw [if_neg (by omega)]; simp), Lib.hid (Below.refl _ _)⟩
  case round =>
    obtain ⟨j, q, hjk, rfl, rfl, HR, HB⟩ := hrel
    by_cases hj : 0 < j
    · obtain ⟨ch, hch, HN⟩ : ∃ ch : UInt8, (ch.toNat : Int) = 48 + (j : Int) % 10 ∧ Hid (Rel k (j / 10) (ch :: q.data.toList)) := ⟨_, byte_num j, HR.out.next hj⟩
      have hadd := add_str (P := Try.prog) ⟨#[ch]⟩ q ⟨(ch :: q.data.toList).toArray⟩ rfl (by have := HN.out.len h2; show (ch :: q.data.toList).length ≤ _; omega)
      have hcv := fun W => conv_one (P := Try.prog) W 22 9 5 ch Try.underlying22 Try.underlying5 Try.underlying9
      rw [hch] at hcv
      have HB3 := Lib.hid (HB.out.alloc HB.out.size (.cells #[.int .u8 (48 + (j : Int) % 10)] 5))
      clear hch
      go_wp2
      go_roundw
      case rel => exact ⟨j / 10, _, by omega, by go_num, rfl, HN, HB3⟩
      case measure => simp [intOf]; omega
    · obtain rfl : j = 0 := by omega
      have hfin : q.data.toList = Lib.decDigits k := HR.out
      have HF := Lib.hid hfin
      have hadd := add_str (P := Try.prog) ⟨#[109]⟩ q (mt k) (by unfold mt; rw [hfin]; rfl) (by have := HR.out.len h2; rw [hfin] at this; show (109 :: Lib.decDigits k).length ≤ _; rw [List.length_cons]; omega)
      clear hfin
      go_wp2
      go_ret
      exact ⟨rfl, HB.out⟩

/-- the marks k, k + 1, .. -/
def marks (k n : Nat) : List Value := (List.range n).map fun i => Value.string (mt (k + i))
theorem marks_len (k n : Nat) : (marks k n).length = n := by simp [marks]
theorem marks_at (k n i : Nat) (h : i < n) : (marks k n)[i]? = some (.string (mt (k + i))) := by
  unfold marks; rw [List.getElem?_map, List.getElem?_range h]; rfl
theorem grown_of {W W' : World} (h : Below W.heap.size W W') : W.grownBy W' none := ⟨h.os, h.tape, h.output, h.size, fun k hk _ => h.block k hk⟩
theorem grown_weak {W W' : World} (h : W.grownBy W' none) (g : Nat) : W.grownBy W' (some g) := ⟨h.os, h.tape, h.output, h.size, fun k hk _ => h.block k hk (by simp)⟩
theorem grown_tr {a b c : World} {r : Option Nat} (h : a.grownBy b r) (k : b.grownBy c r) : a.grownBy c r :=
  ⟨k.os.trans h.os, k.tape.trans h.tape, k.output.trans h.output, Nat.le_trans h.size k.size, fun i hi hr => (k.block i (Nat.lt_of_lt_of_le hi h.size) hr).trans (h.block i hi hr)⟩

def MarkRel (w : World) (base g n c k : Nat) (xs : List Value) (i : Nat) (wr : World) : Prop :=
  wr.ownsRow base 9 1 (.slice (some ⟨g, 0, none⟩) n c) n (fill (marks k n) xs i) ∧ w.grownBy wr (some g)

theorem mark_next {w wr w1 : World} {base g n c k i : Nat} {xs : List Value} (h : MarkRel w base g n c k xs i wr) (hb : Below wr.heap.size wr w1) (hxs : xs.length = n) (hi : i < n) :
    ∃ y, w1.cell? ⟨g, i, none⟩ = some y ∧ w1.frozen? ⟨g, i, none⟩ = false ∧ MarkRel w base g n c k xs (i + 1) (w1.setCell ⟨g, i, none⟩ (.string (mt (k + i)))) := by
  have hk := grown_of hb
  have h1 : w1.ownsRow base 9 1 (.slice (some ⟨g, 0, none⟩) n c) n (fill (marks k n) xs i) := h.1.kept hk (.inr (by simp [Value.ownBlock]))
  have hlen : (fill (marks k n) xs i).length = n := by rw [fill_len _ _ _ (by rw [marks_len, hxs])]; exact hxs
  have hc := h1.cellAt i (by omega)
  rw [List.getElem?_eq_getElem (by omega)] at hc
  refine ⟨_, hc, h1.frozenAt i, ?_, ?_⟩
  · have := (h1.stored i (.string (mt (k + i)))).1
    rw [fill_set _ _ _ _ (by omega) (marks_at k n i hi)] at this
    exact this
  · exact grown_tr h.2 (grown_tr (grown_weak hk g) (h1.stored i (.string (mt (k + i)))).2)

def MarkPost (w : World) (base g n c k : Nat) (e : Ending) (w' : World) : Prop :=
  e = .returned (.int .i64 ((k + n : Nat) : Int)) ∧ w'.ownsRow base 9 1 (.slice (some ⟨g, 0, none⟩) n c) n (marks k n) ∧ w.grownBy w' (some g)

set_option maxHeartbeats 1000000 in
theorem mark_any (w : World) (base g n c k : Nat) (xs : List Value) (h : w.ownsRow base 9 1 (.slice (some ⟨g, 0, none⟩) n c) n xs) (hn : n ≤ 1048576) (hk : 1 ≤ k) (hk2 : k ≤ 1048576) :
    Calls Try.prog 19 #[.slice (some ⟨g, 0, none⟩) n c, .int .i64 (k : Int)] w (MarkPost w base g n c k) := by
  have hxs : Hid (xs.length = n) := Lib.hid (by have := h.1; omega)
  have HR0 : Hid (MarkRel w base g n c k xs 0 w) := Lib.hid ⟨by rw [fill_zero]; exact h, ⟨rfl, rfl, rfl, Nat.le_refl _, fun _ _ _ => rfl⟩⟩
  clear h
  go_enter Try.func19, Try.ntmps19
  go_wp2_with fail
  go_loopw [1, 5] (fun t i wr => ∃ j : Nat, j ≤ n ∧ i = .int .i64 j ∧ t = .int .i64 ((k + j : Nat) : Int) ∧ Hid (MarkRel w base g n c k xs j wr)) (fun _ i _ => n - (intOf i).toNat)
  case atStart => exact ⟨0, Nat.zero_le _, rfl, rfl, HR0⟩
  case round =>
    obtain ⟨j, hj, rfl, rfl, HR⟩ := hrel
    by_cases hlt : j < n
    · go_wp2_with (go_at_call 34; refine (markText_any (k + j) wr (by omega) (by omega)).mono ?_; rintro e w1 ⟨rfl, hb⟩; obtain ⟨y, hc, hf, hR1⟩ := mark_next HR.out hb hxs.out hlt; have HR1 := Lib.hid hR1; clear hb hR1)
      go_roundw
      case rel => exact ⟨j + 1, by omega, by go_num, by go_num, HR1⟩
      case measure => simp [intOf]; omega
    · obtain rfl : j = n := by omega
      have HF := Lib.hid HR.out.1
      go_wp2_with fail
      go_ret
      exact ⟨rfl, by rw [← fill_all (marks k j) xs (by rw [marks_len]; exact hxs.out), marks_len]; exact HF.out, HR.out.2⟩

theorem keep_both {w X w1 : World} {a : Addr} {v : Value} (hb : Below X.heap.size X w1) (h : X.cell? a = some v ∧ Below w.heap.size w X) : w1.cell? a = some v ∧ Below w.heap.size w w1 :=
  ⟨cell_below hb h.1, Below.step h.2 hb⟩
def HeldPost (w : World) (k n : Nat) (e : Ending) (w' : World) : Prop := e = .returned (.int .i64 ((k + n : Nat) : Int)) ∧ Below w.heap.size w w'

set_option maxHeartbeats 1000000 in
theorem held_any (w : World) (base g n c k : Nat) (h : w.ownsRow base 9 1 (.slice (some ⟨g, 0, none⟩) n c) n (marks k n)) (hn : n ≤ 1048576) (hk : 1 ≤ k) (hk2 : k ≤ 1048576) :
    Calls Try.prog 20 #[.slice (some ⟨g, 0, none⟩) n c, .int .i64 (k : Int)] w (HeldPost w k n) := by
  have HH : Hid (∀ j, j < n → w.cell? ⟨g, j, none⟩ = some (.string (mt (k + j)))) := Lib.hid fun j hj => by rw [h.cellAt j (by omega), marks_at k n j hj]
  clear h
  go_enter Try.func20, Try.ntmps20
  go_wp2_with fail
  go_loopw [1, 5] (fun t i wr => ∃ j : Nat, j ≤ n ∧ i = .int .i64 j ∧ t = .int .i64 ((k + j : Nat) : Int) ∧ Hid (Below w.heap.size w wr)) (fun _ i _ => n - (intOf i).toNat)
  case atStart => exact ⟨0, Nat.zero_le _, rfl, rfl, Lib.hid (Below.refl _ _)⟩
  case round =>
    obtain ⟨j, hj, rfl, rfl, HB⟩ := hrel
    by_cases hlt : j < n
    · have hcell : wr.cell? ⟨g, j, none⟩ = some (.string (mt (k + j))) := cell_below HB.out (HH.out j hlt)
      have hbel : Below w.heap.size w wr := HB.out
      go_wp2_with fail
      go_region_held3 (fun w' => w'.cell? ⟨g, j, none⟩ = some (.string (mt (k + j))) ∧ Below w.heap.size w w') (first | exact ⟨hcell, hbel.drew⟩ | exact keep_both hb (by assumption) | go_keep)
        (first | (go_at_call 34; refine (markText_any (k + j) _ (by omega) (by omega)).mono ?_; rintro e w1 ⟨rfl, hb⟩))
      rename_i hX
      have HX := Lib.hid hX.2
      clear hX
      go_wp2_with fail
      go_roundw
      case rel => exact ⟨j + 1, by omega, by go_num, by go_num, HX⟩
      case measure => simp [intOf]; omega
    · obtain rfl : j = n := by omega
      go_wp2_with fail
      go_ret
      exact ⟨rfl, HB.out⟩
end Go.Proofs.Ytohgfphbgpjamaa.MarkStr
