/- The contracts of the draws of FnStrings: DrawFormatInt, DrawParseInt and DrawAppendChecksum, and of the cursor's method among. Condition: the bytes read as bytes. -/
import Derived.Test.YtohgfphbgpjamaaDoorCurMore
import Derived.Test.YtohgfphbgpjamaaDoorNum
import Derived.Laws.IdiomStrings
import Derived.Laws.MakeOwn
import Derived.OwnWalk
namespace Go.Proofs.YtohgfphbgpjamaaDoor.DrawStrings
set_option linter.unusedVariables false
open Go.RowKit
open Go.Proofs.YtohgfphbgpjamaaDoor.Rowed Go.Proofs.YtohgfphbgpjamaaDoor.Cursor Go.Proofs.YtohgfphbgpjamaaDoor.CurMore Go.Proofs.YtohgfphbgpjamaaDoor.Num

def AmongPost (w : World) (g : Nat) (A : Option Addr) (n c m : Nat) (l : List Int) (e : Ending) (w' : World) : Prop :=
  ∃ x : Int, e = .returned (.int .i64 x) ∧ x ∈ l ∧ Cur w' g A n c m ∧ w.grownBy w' (some g)

theorem among_any (w : World) (B g : Nat) (A A2 : Option Addr) (n c m k c2 : Nat) (l : List Int) (hc : ByteCode w B A n) (hB : B ≤ g) (h : Cur w g A n c m) (hm : m < 4611686018427387900) (hn : n ≤ 9223372036854775807)
    (hl : Cells w 1 A2 k (l.map (Value.int .i64))) (hk : 1 ≤ k) (hk2 : k ≤ 1048576) (hne : ∀ ad, A2 = some ad → ad.block ≠ g) :
    Calls Tryd.prog 21 #[.pointer (some ⟨g, 0, none⟩), .slice A2 k c2] w (AmongPost w g A n c (m + 2) l) := by
  have HC := Lib.hid hc
  have HU := Lib.hid h
  have HL := Lib.hid hl
  have HN := Lib.hid hne
  clear hc h hl hne
  go_enter Tryd.func21, Tryd.ntmps21
  go_wp2_with fail
  go_at_call 22
  refine (pick_any w B g A n c m k HC.out hB HU.out hm hn (by omega) (by omega)).mono ?_
  rintro e w1 ⟨x, rfl, h0, h1, hU1, hG1⟩
  obtain ⟨i, rfl⟩ : ∃ i : Nat, x = i := ⟨x.toNat, by omega⟩
  obtain ⟨ad, s, rfl, hs, hcell0⟩ := HL.out.at_ (k := i) (by omega)
  obtain ⟨z, hz, rfl⟩ : ∃ z, l[i]? = some z ∧ Value.int .i64 z = s := by
    rw [List.getElem?_map] at hs
    cases hq : l[i]? with
    | none => rw [hq] at hs; simp at hs
    | some z => rw [hq] at hs; exact ⟨z, rfl, by simpa using hs⟩
  have hcell : w1.cell? (ad.add i) = some (.int .i64 z) := hG1.cell hcell0 (by rw [add_block]; intro e; injection e with e; exact HN.out ad rfl e)
  have HS := Lib.hid (List.mem_of_getElem? hz)
  have U1 := Lib.hid hU1
  have G1 := Lib.hid hG1
  clear hU1 hG1 hs hz hcell0
  go_wp2_with fail
  go_ret
  exact ⟨_, rfl, HS.out, U1.out, G1.out⟩

def IntPost (lo hi : Int) (w : World) (e : Ending) (w' : World) : Prop := ∃ x : Int, e = .returned (.int .i64 x) ∧ lo ≤ x ∧ x ≤ hi ∧ Below w.heap.size w w'
def TxtPost (lim : Nat) (w : World) (e : Ending) (w' : World) : Prop := ∃ s : ByteArray, e = .returned (.string s) ∧ s.size ≤ lim ∧ Below w.heap.size w w'

def fmtL (y : Int) : List Int := [0, 1, -1, 10, 999999, -999999, 1000000, -1000000, y]
theorem fmtL_bd (y : Int) (h1 : -500 ≤ y) (h2 : y ≤ 499) (x : Int) (h : x ∈ fmtL y) : -1000000 ≤ x ∧ x ≤ 1000000 := by
  unfold fmtL at h
  simp only [List.mem_cons, List.not_mem_nil, or_false] at h
  omega

set_option maxHeartbeats 800000 in
theorem drawFormat_any (w : World) (A : Option Addr) (n c : Nat) (hc : ByteCode w w.heap.size A n) (hn : n ≤ 9223372036854775807) :
    Calls Tryd.prog 9 #[.slice A n c] w (IntPost (-1000000) 1000000 w) := by
  obtain ⟨w1, hw1⟩ : ∃ w1, w.alloc (.cells #[.slice A n c, .int .i64 0, .int .u64 0] 37) = w1 := ⟨_, rfl⟩
  have HU : Hid (Cur w1 w.heap.size A n c 0) := Lib.hid (hw1 ▸ start_cur w A n c)
  have HC : Hid (ByteCode w1 w.heap.size A n) := Lib.hid (hw1 ▸ ByteCode.below hc (below_alloc w _))
  have HB : Hid (Below w.heap.size w w1) := Lib.hid (hw1 ▸ below_alloc w _)
  clear hc
  go_enter Tryd.func9, Tryd.ntmps9
  go_wp2_with fail
  clear hw1
  go_at_call 22
  refine (pick_any w1 w.heap.size w.heap.size A n c 0 1000 HC.out (Nat.le_refl _) HU.out (by omega) hn (by omega) (by omega)).mono ?_
  rintro e w2 ⟨x, rfl, h0, h1, hU2, hG2⟩
  have U2 := Lib.hid hU2
  have C2 := Lib.hid (HC.out.grown hG2 (Nat.le_refl _))
  have B2 := Lib.hid (HB.out.grown hG2 HB.out.size (by intro k e; injection e with e; omega))
  have hlt : w.heap.size < w2.heap.size := by obtain ⟨_, _, _, hh⟩ := hU2; exact (Array.getElem?_eq_some_iff.1 hh).1
  clear hU2 hG2
  obtain ⟨w3, hw3⟩ : ∃ w3, w2.alloc (.cells #[.int .i64 0, .int .i64 1, .int .i64 (-1), .int .i64 10, .int .i64 999999, .int .i64 (-999999), .int .i64 1000000, .int .i64 (-1000000), .int .i64 (x - 500)] 3) = w3 := ⟨_, rfl⟩
  have U3 : Hid (Cur w3 w.heap.size A n c 2) := Lib.hid (hw3 ▸ Cur.below U2.out (below_alloc w2 _))
  have C3 : Hid (ByteCode w3 w.heap.size A n) := Lib.hid (hw3 ▸ ByteCode.below C2.out (below_alloc w2 _))
  have B3 : Hid (Below w.heap.size w w3) := Lib.hid (hw3 ▸ B2.out.alloc (by omega) _)
  have L3 : Hid (Cells w3 1 (some ⟨w2.heap.size, 0, none⟩) 9 ((fmtL (x - 500)).map (Value.int .i64))) := Lib.hid (hw3 ▸ lit_cells w2 3 ((fmtL (x - 500)).map (Value.int .i64)))
  go_wp2_with fail
  clear hw3
  go_at_call 21
  refine (among_any w3 w.heap.size w.heap.size A _ n c 2 9 9 (fmtL (x - 500)) C3.out (Nat.le_refl _) U3.out (by omega) hn L3.out (by omega) (by omega) (by intro ad e; injection e with e; subst e; show w2.heap.size ≠ w.heap.size; omega)).mono ?_
  rintro e w4 ⟨z, rfl, hz, hU4, hG4⟩
  have Z := Lib.hid (fmtL_bd (x - 500) (by omega) (by omega) z hz)
  have B4 := Lib.hid (B3.out.grown hG4 B3.out.size (by intro k e; injection e with e; omega))
  clear hz hU4 hG4
  go_wp2_with fail
  go_ret
  exact ⟨_, rfl, Z.out.1, Z.out.2, B4.out⟩

/-- what a string of the draws' own list is -/
theorem short_any (x : ByteArray) (h : x ∈ anyL) : x.size ≤ 10 := by
  unfold anyL at h
  simp only [List.mem_cons, List.not_mem_nil, or_false] at h
  rcases h with rfl | rfl | rfl | rfl | rfl | rfl | rfl | rfl | rfl <;> decide
def parseL : List ByteArray := [⟨#[]⟩, ⟨#[45]⟩, ⟨#[45, 48]⟩, ⟨#[48, 48]⟩, ⟨#[48, 49]⟩, ⟨#[45, 45, 49]⟩, ⟨#[49, 120]⟩, ⟨#[57, 57, 57, 57, 57, 57]⟩, ⟨#[49, 48, 48, 48, 48, 48, 48]⟩, ⟨#[45, 57, 57, 57, 57, 57, 57]⟩, ⟨#[49, 56, 52, 52, 54, 55, 52, 52, 48, 55, 51, 55, 48, 57, 53, 53, 49, 54, 49, 55]⟩]
theorem short_parse (x : ByteArray) (h : x ∈ parseL) : x.size ≤ 100 := by
  unfold parseL at h
  simp only [List.mem_cons, List.not_mem_nil, or_false] at h
  rcases h with rfl | rfl | rfl | rfl | rfl | rfl | rfl | rfl | rfl | rfl | rfl <;> decide
theorem short_itoa (x : Int) (h1 : -1000 ≤ x) (h2 : x ≤ 1000) : (ByteArray.mk (Lib.itoa x).toArray).size ≤ 100 := by
  have := Lib.itoa_length_le x (by omega) (by omega)
  show (Lib.itoa x).length ≤ 100
  omega

set_option maxHeartbeats 800000 in
theorem drawParse_any (w : World) (A : Option Addr) (n c : Nat) (hc : ByteCode w w.heap.size A n) (hn : n ≤ 9223372036854775807) :
    Calls Tryd.prog 12 #[.slice A n c] w (TxtPost 100 w) := by
  obtain ⟨w1, hw1⟩ : ∃ w1, w.alloc (.cells #[.slice A n c, .int .i64 0, .int .u64 0] 37) = w1 := ⟨_, rfl⟩
  have HU : Hid (Cur w1 w.heap.size A n c 0) := Lib.hid (hw1 ▸ start_cur w A n c)
  have HC : Hid (ByteCode w1 w.heap.size A n) := Lib.hid (hw1 ▸ ByteCode.below hc (below_alloc w _))
  have HB : Hid (Below w.heap.size w w1) := Lib.hid (hw1 ▸ below_alloc w _)
  clear hc
  go_enter Tryd.func12, Tryd.ntmps12
  go_wp2_with fail
  clear hw1
  go_at_call 26
  refine (one_any w1 w.heap.size w.heap.size A n c 0 2 HC.out (Nat.le_refl _) HU.out (by omega) hn (by omega) (by omega)).mono ?_
  rintro e w2 ⟨b, rfl, hU2, hG2⟩
  have U2 := Lib.hid hU2
  have C2 := Lib.hid (HC.out.grown hG2 (Nat.le_refl _))
  have B2 := Lib.hid (HB.out.grown hG2 HB.out.size (by intro k e; injection e with e; omega))
  have hlt : w.heap.size < w2.heap.size := by obtain ⟨_, _, _, hh⟩ := hU2; exact (Array.getElem?_eq_some_iff.1 hh).1
  clear hU2 hG2
  cases b with
  | true =>
    obtain ⟨w3, hw3⟩ : ∃ w3, w2.alloc (.cells #[.string ⟨#[]⟩, .string ⟨#[45]⟩, .string ⟨#[45, 48]⟩, .string ⟨#[48, 48]⟩, .string ⟨#[48, 49]⟩, .string ⟨#[45, 45, 49]⟩, .string ⟨#[49, 120]⟩, .string ⟨#[57, 57, 57, 57, 57, 57]⟩, .string ⟨#[49, 48, 48, 48, 48, 48, 48]⟩, .string ⟨#[45, 57, 57, 57, 57, 57, 57]⟩, .string ⟨#[49, 56, 52, 52, 54, 55, 52, 52, 48, 55, 51, 55, 48, 57, 53, 53, 49, 54, 49, 55]⟩] 9) = w3 := ⟨_, rfl⟩
    have U3 : Hid (Cur w3 w.heap.size A n c 2) := Lib.hid (hw3 ▸ Cur.below U2.out (below_alloc w2 _))
    have C3 : Hid (ByteCode w3 w.heap.size A n) := Lib.hid (hw3 ▸ ByteCode.below C2.out (below_alloc w2 _))
    have B3 : Hid (Below w.heap.size w w3) := Lib.hid (hw3 ▸ B2.out.alloc (by omega) _)
    have L3 : Hid (Strs w3 (some ⟨w2.heap.size, 0, none⟩) 11 parseL) := Lib.hid (hw3 ▸ lit_strs w2 9 parseL)
    go_wp2_with fail
    clear hw3
    go_at_call 27
    refine (of_any w3 w.heap.size w.heap.size A _ n c 2 11 11 parseL C3.out (Nat.le_refl _) U3.out (by omega) hn L3.out (by omega) (by omega) (by intro ad e; injection e with e; subst e; show w2.heap.size ≠ w.heap.size; omega)).mono ?_
    rintro e w4 ⟨z, rfl, hz, hU4, hG4⟩
    have Z := Lib.hid (short_parse z hz)
    have B4 := Lib.hid (B3.out.grown hG4 B3.out.size (by intro k e; injection e with e; omega))
    clear hz hU4 hG4
    go_wp2_with fail
    go_ret
    exact ⟨_, rfl, Z.out, B4.out⟩
  | false =>
    go_wp2_with fail
    go_at_call 22
    refine (pick_any w2 w.heap.size w.heap.size A n c 2 2000 C2.out (Nat.le_refl _) U2.out (by omega) hn (by omega) (by omega)).mono ?_
    rintro e w3 ⟨x, rfl, h0, h1, hU3, hG3⟩
    have B3 := Lib.hid (B2.out.grown hG3 B2.out.size (by intro k e; injection e with e; omega))
    clear hU3 hG3
    go_wp2_with fail
    go_at_call 25
    refine (l1Num_any (x - 1000) w3 (by omega) (by omega)).mono ?_
    rintro e w4 ⟨rfl, m, rfl⟩
    have Z := Lib.hid (short_itoa (x - 1000) (by omega) (by omega))
    go_wp2_with fail
    go_ret
    exact ⟨_, rfl, Z.out, B3.out.trans ⟨rfl, rfl, rfl, Nat.le_refl _, fun _ _ => rfl⟩⟩

theorem infoB : (Tryd.prog.info? 5).map (fun i => (i.zero, i.size, i.bytes)) = some (some (.int .u8 0), 1, 1) := by kernel_rfl
/-- the string of k zero bytes -/
def zeros (k : Nat) : ByteArray := ⟨(List.replicate k (0 : UInt8)).toArray⟩
theorem zeros_size (k : Nat) : (zeros k).size = k := by show (List.replicate k (0 : UInt8)).length = k; simp
theorem conv_zeros (w : World) (g k base : Nat) (h : w.ownsRow base 5 1 (.slice (some ⟨g, 0, none⟩) k k) k (madeCells (Value.int .u8 0).cells (k * 1)).toList) :
    (convert 22 9 (.slice (some ⟨g, 0, none⟩) k k)).run Tryd.prog w = .ok (.string (zeros k)) w := by
  have e : (madeCells (Value.int .u8 0).cells (k * 1)).toList = List.replicate k (Value.int .u8 0) := by rw [Nat.mul_one]; exact toList_madeCells_one _ _
  rw [e] at h
  have hl : (List.replicate k (0 : UInt8)).length = k := by simp
  have := run_convert_bytes_back (P := Tryd.prog) w 22 9 5 ⟨g, 0, none⟩ k (List.replicate k (0 : UInt8)) Tryd.underlying22 Tryd.underlying5 Tryd.underlying9 (fun j hj => by
    rw [h.cells (g := g) rfl j (.int .u8 0) (by rw [List.getElem?_replicate, if_pos (by omega)])]
    simp)
  rw [hl] at this
  exact this

set_option maxHeartbeats 800000 in
theorem drawAppend_any (w : World) (A : Option Addr) (n c : Nat) (hc : ByteCode w w.heap.size A n) (hn : n ≤ 9223372036854775807) :
    Calls Tryd.prog 15 #[.slice A n c] w (TxtPost 4000 w) := by
  obtain ⟨i0, hi, hz0, hz1, hz2⟩ := info_parts infoB
  obtain ⟨w1, hw1⟩ : ∃ w1, w.alloc (.cells #[.slice A n c, .int .i64 0, .int .u64 0] 37) = w1 := ⟨_, rfl⟩
  have HU : Hid (Cur w1 w.heap.size A n c 0) := Lib.hid (hw1 ▸ start_cur w A n c)
  have HC : Hid (ByteCode w1 w.heap.size A n) := Lib.hid (hw1 ▸ ByteCode.below hc (below_alloc w _))
  have HB : Hid (Below w.heap.size w w1) := Lib.hid (hw1 ▸ below_alloc w _)
  clear hc
  go_enter Tryd.func15, Tryd.ntmps15
  go_wp2_with fail
  clear hw1
  go_at_call 26
  refine (one_any w1 w.heap.size w.heap.size A n c 0 20 HC.out (Nat.le_refl _) HU.out (by omega) hn (by omega) (by omega)).mono ?_
  rintro e w2 ⟨b, rfl, hU2, hG2⟩
  have U2 := Lib.hid hU2
  have C2 := Lib.hid (HC.out.grown hG2 (Nat.le_refl _))
  have B2 := Lib.hid (HB.out.grown hG2 HB.out.size (by intro k e; injection e with e; omega))
  clear hU2 hG2
  cases b with
  | true =>
    go_wp2_with fail
    go_at_call 22
    refine (pick_any w2 w.heap.size w.heap.size A n c 2 10 C2.out (Nat.le_refl _) U2.out (by omega) hn (by omega) (by omega)).mono ?_
    rintro e w3 ⟨x, rfl, h0, h1, hU3, hG3⟩
    obtain ⟨i, rfl⟩ : ∃ i : Nat, x = i := ⟨x.toNat, by omega⟩
    have B3 := Lib.hid (B2.out.grown hG3 B2.out.size (by intro k e; injection e with e; omega))
    clear hU3 hG3
    go_wp2_with (at_make; refine wpList_make_full _ rfl _ _ 22 rfl w3.heap.size 5 i0 (.int .u8 0) 1 Tryd.underlying22 hi hz0 hz1 .i64 .i64 _ _ (3990 + i) rfl rfl (by omega) (by omega) (by rw [hz2]; omega) (by unfold maxLen; omega) (Nat.le_refl _) ?_; intro w4 hO hG4; have hcv := conv_zeros w4 _ _ _ hO; have B4 := Lib.hid (B3.out.grown hG4 B3.out.size (by simp)); clear hO hG4)
    go_ret
    exact ⟨_, rfl, by rw [zeros_size]; omega, B4.out⟩
  | false =>
    go_wp2_with fail
    go_at_call 30
    refine (any1_any w2 w.heap.size w.heap.size A n c 2 C2.out (Nat.le_refl _) U2.out (by omega) hn).mono ?_
    rintro e w3 ⟨z, rfl, hz, hU3, hG3⟩
    have Z := Lib.hid (short_any z hz)
    have B3 := Lib.hid (B2.out.grown hG3 B2.out.size (by intro k e; injection e with e; omega))
    clear hz hU3 hG3
    go_wp2_with fail
    go_ret
    exact ⟨_, rfl, by have := Z.out; omega, B3.out⟩
end Go.Proofs.YtohgfphbgpjamaaDoor.DrawStrings
