/- The contracts of the draws of FnSplitJoin: DrawSplitString, DrawJoinStrings and DrawLessString. Condition: the bytes read as bytes. -/
import Derived.Test.YtohgfphbgpjamaaCurMore
import Derived.Maps.AppendAt
import Derived.Laws.IdiomStrings
import Derived.Laws.MakeOwn
import Derived.OwnWalk
namespace Go.Proofs.Ytohgfphbgpjamaa.DrawSplit
set_option linter.unusedVariables false
open Go.RowKit
open Go.Proofs.Ytohgfphbgpjamaa.Rowed Go.Proofs.Ytohgfphbgpjamaa.Cursor Go.Proofs.Ytohgfphbgpjamaa.CurMore

theorem short_any (x : ByteArray) (h : x ∈ anyL) : x.size ≤ 10 := by
  unfold anyL at h
  simp only [List.mem_cons, List.not_mem_nil, or_false] at h
  rcases h with rfl | rfl | rfl | rfl | rfl | rfl | rfl | rfl | rfl <;> decide
def sepL : List ByteArray := [⟨#[44]⟩, ⟨#[44]⟩, ⟨#[32]⟩, ⟨#[]⟩, ⟨#[44, 44]⟩]
theorem short_sep (x : ByteArray) (h : x ∈ sepL) : x.size ≤ 2 := by
  unfold sepL at h
  simp only [List.mem_cons, List.not_mem_nil, or_false] at h
  rcases h with rfl | rfl | rfl | rfl | rfl <;> decide
def markL : List ByteArray := [⟨#[44]⟩, ⟨#[59]⟩, ⟨#[59]⟩, ⟨#[]⟩, ⟨#[97, 98]⟩]
theorem short_mark (x : ByteArray) (h : x ∈ markL) : x.size ≤ 2 := by
  unfold markL at h
  simp only [List.mem_cons, List.not_mem_nil, or_false] at h
  rcases h with rfl | rfl | rfl | rfl | rfl <;> decide

theorem ByteCode.below' {w w' : World} {B n : Nat} {A : Option Addr} (h : ByteCode w B A n) (hb : Below w.heap.size w w') (hB : B ≤ w.heap.size) : ByteCode w' B A n :=
  fun i hi => let ⟨ad, z, e, hbl, hc, h0, h1⟩ := h i hi; ⟨ad, z, e, hbl, cell_below hb hc, h0, h1⟩
theorem below_none {w w' : World} (hg : w.grownBy w' none) : Below w.heap.size w w' := (Below.refl _ _).grown hg (Nat.le_refl _) (by simp)
def TwoPost (l1 l2 : Nat) (w : World) (e : Ending) (w' : World) : Prop := ∃ s t : ByteArray, e = .returned (.tuple #[.string s, .string t]) ∧ s.size ≤ l1 ∧ t.size ≤ l2 ∧ Below w.heap.size w w'

set_option maxHeartbeats 800000 in
theorem drawSplit_any (w : World) (A : Option Addr) (n c : Nat) (hc : ByteCode w w.heap.size A n) (hn : n ≤ 9223372036854775807) :
    Calls Try.prog 9 #[.slice A n c] w (TwoPost 10 2 w) := by
  obtain ⟨w1, hw1⟩ : ∃ w1, w.alloc (.cells #[.slice A n c, .int .i64 0, .int .u64 0] 44) = w1 := ⟨_, rfl⟩
  have HU : Hid (Cur w1 w.heap.size A n c 0) := Lib.hid (hw1 ▸ start_cur w A n c)
  have HC : Hid (ByteCode w1 w.heap.size A n) := Lib.hid (hw1 ▸ ByteCode.below hc (below_alloc w _))
  have HB : Hid (Below w.heap.size w w1) := Lib.hid (hw1 ▸ below_alloc w _)
  clear hc
  go_enter Try.func9, Try.ntmps9
  go_wp2_with fail
  clear hw1
  go_at_call 25
  refine (any1_any w1 w.heap.size w.heap.size A n c 0 HC.out (Nat.le_refl _) HU.out (by omega) hn).mono ?_
  rintro e w2 ⟨x, rfl, hx, hU2, hG2⟩
  have X := Lib.hid (short_any x hx)
  have U2 := Lib.hid hU2
  have C2 := Lib.hid (HC.out.grown hG2 (Nat.le_refl _))
  have B2 := Lib.hid (HB.out.grown hG2 HB.out.size (by intro k e; injection e with e; omega))
  have hlt : w.heap.size < w2.heap.size := by obtain ⟨_, _, _, hh⟩ := hU2; exact (Array.getElem?_eq_some_iff.1 hh).1
  clear hU2 hG2 hx
  obtain ⟨w3, hw3⟩ : ∃ w3, w2.alloc (.cells #[.string ⟨#[44]⟩, .string ⟨#[44]⟩, .string ⟨#[32]⟩, .string ⟨#[]⟩, .string ⟨#[44, 44]⟩] 9) = w3 := ⟨_, rfl⟩
  have U3 : Hid (Cur w3 w.heap.size A n c 2) := Lib.hid (hw3 ▸ Cur.below U2.out (below_alloc w2 _))
  have C3 : Hid (ByteCode w3 w.heap.size A n) := Lib.hid (hw3 ▸ ByteCode.below C2.out (below_alloc w2 _))
  have B3 : Hid (Below w.heap.size w w3) := Lib.hid (hw3 ▸ B2.out.alloc (by omega) _)
  have L3 : Hid (Strs w3 (some ⟨w2.heap.size, 0, none⟩) 5 sepL) := Lib.hid (hw3 ▸ lit_strs w2 9 sepL)
  go_wp2_with fail
  clear hw3
  go_at_call 26
  refine (of_any w3 w.heap.size w.heap.size A _ n c 2 5 5 sepL C3.out (Nat.le_refl _) U3.out (by omega) hn L3.out (by omega) (by omega) (by intro ad e; injection e with e; subst e; show w2.heap.size ≠ w.heap.size; omega)).mono ?_
  rintro e w4 ⟨z, rfl, hz, hU4, hG4⟩
  have Z := Lib.hid (short_sep z hz)
  have B4 := Lib.hid (B3.out.grown hG4 B3.out.size (by intro k e; injection e with e; omega))
  clear hz hU4 hG4
  go_wp2_with fail
  go_ret2
  exact ⟨_, _, rfl, X.out, Z.out, B4.out⟩

set_option maxHeartbeats 800000 in
theorem drawLess_any (w : World) (A : Option Addr) (n c : Nat) (hc : ByteCode w w.heap.size A n) (hn : n ≤ 9223372036854775807) :
    Calls Try.prog 14 #[.slice A n c] w (TwoPost 10 10 w) := by
  obtain ⟨w1, hw1⟩ : ∃ w1, w.alloc (.cells #[.slice A n c, .int .i64 0, .int .u64 0] 44) = w1 := ⟨_, rfl⟩
  have HU : Hid (Cur w1 w.heap.size A n c 0) := Lib.hid (hw1 ▸ start_cur w A n c)
  have HC : Hid (ByteCode w1 w.heap.size A n) := Lib.hid (hw1 ▸ ByteCode.below hc (below_alloc w _))
  have HB : Hid (Below w.heap.size w w1) := Lib.hid (hw1 ▸ below_alloc w _)
  clear hc
  go_enter Try.func14, Try.ntmps14
  go_wp2_with fail
  clear hw1
  go_at_call 25
  refine (any1_any w1 w.heap.size w.heap.size A n c 0 HC.out (Nat.le_refl _) HU.out (by omega) hn).mono ?_
  rintro e w2 ⟨x, rfl, hx, hU2, hG2⟩
  have X := Lib.hid (short_any x hx)
  have U2 := Lib.hid hU2
  have C2 := Lib.hid (HC.out.grown hG2 (Nat.le_refl _))
  have B2 := Lib.hid (HB.out.grown hG2 HB.out.size (by intro k e; injection e with e; omega))
  clear hU2 hG2 hx
  go_wp2_with fail
  go_at_call 25
  refine (any1_any w2 w.heap.size w.heap.size A n c 2 C2.out (Nat.le_refl _) U2.out (by omega) hn).mono ?_
  rintro e w4 ⟨z, rfl, hz, hU4, hG4⟩
  have Z := Lib.hid (short_any z hz)
  have B4 := Lib.hid (B2.out.grown hG4 B2.out.size (by intro k e; injection e with e; omega))
  clear hz hU4 hG4
  go_wp2_with fail
  go_ret2
  exact ⟨_, _, rfl, X.out, Z.out, B4.out⟩

theorem infoB : (Try.prog.info? 5).map (fun i => (i.zero, i.size, i.bytes)) = some (some (.int .u8 0), 1, 1) := by kernel_rfl
theorem infoS : (Try.prog.info? 9).map (fun i => (i.zero, i.size, i.bytes)) = some (some (.string ByteArray.empty), 1, 16) := by kernel_rfl
/-- the string of k zero bytes -/
def zeros (k : Nat) : ByteArray := ⟨(List.replicate k (0 : UInt8)).toArray⟩
theorem zeros_size (k : Nat) : (zeros k).size = k := by show (List.replicate k (0 : UInt8)).length = k; simp
theorem conv_zeros (w : World) (g k base : Nat) (h : w.ownsRow base 5 1 (.slice (some ⟨g, 0, none⟩) k k) k (madeCells (Value.int .u8 0).cells (k * 1)).toList) :
    (convert 22 9 (.slice (some ⟨g, 0, none⟩) k k)).run Try.prog w = .ok (.string (zeros k)) w := by
  have e : (madeCells (Value.int .u8 0).cells (k * 1)).toList = List.replicate k (Value.int .u8 0) := by rw [Nat.mul_one]; exact toList_madeCells_one _ _
  rw [e] at h
  have hl : (List.replicate k (0 : UInt8)).length = k := by simp
  have := run_convert_bytes_back (P := Try.prog) w 22 9 5 ⟨g, 0, none⟩ k (List.replicate k (0 : UInt8)) Try.underlying22 Try.underlying5 Try.underlying9 (fun j hj => by
    rw [h.cells (g := g) rfl j (.int .u8 0) (by rw [List.getElem?_replicate, if_pos (by omega)])]
    simp)
  rw [hl] at this
  exact this

/-- the draw's world: the cursor in the first new block, and behind it a row that holds the strings l -/
structure Rel (w : World) (A : Option Addr) (n c base m : Nat) (l : List ByteArray) (ao : Option Addr) (cv : Nat) (wr : World) : Prop where
  own : wr.ownsRow base 9 1 (.slice ao l.length cv) l.length (l.map Value.string)
  hb : w.heap.size < base
  cur : Cur wr w.heap.size A n c m
  code : ByteCode wr w.heap.size A n
  bel : Below w.heap.size w wr
  sz : base ≤ wr.heap.size
theorem Rel.call {w : World} {A : Option Addr} {n c base m m' cv : Nat} {l : List ByteArray} {ao : Option Addr} {wr w2 : World} (h : Rel w A n c base m l ao cv wr) (hc : Cur w2 w.heap.size A n c m') (hg : wr.grownBy w2 (some w.heap.size)) : Rel w A n c base m' l ao cv w2 where
  own := h.own.kept hg (by
    cases hv : (Value.slice ao l.length cv).ownBlock with
    | none => exact .inl rfl
    | some k => exact .inr (by have := (h.own.lt k hv).1; have := h.hb; intro e; injection e with e; omega))
  hb := h.hb
  cur := hc
  code := h.code.grown hg (Nat.le_refl _)
  bel := h.bel.grown hg h.bel.size (by intro k e; injection e with e; omega)
  sz := Nat.le_trans h.sz hg.size
theorem Rel.alloc {w : World} {A : Option Addr} {n c base m cv : Nat} {l : List ByteArray} {ao : Option Addr} {wr : World} (h : Rel w A n c base m l ao cv wr) (o : Obj) : Rel w A n c base m l ao cv (wr.alloc o) where
  own := h.own.alloc o
  hb := h.hb
  cur := Cur.below h.cur (below_alloc wr o)
  code := ByteCode.below' h.code (below_alloc wr o) h.bel.size
  bel := h.bel.alloc h.bel.size o
  sz := by have := (below_alloc wr o).size; have := h.sz; omega
theorem Rel.quiet {w : World} {A : Option Addr} {n c base m cv : Nat} {l : List ByteArray} {ao : Option Addr} {wr w2 : World} (h : Rel w A n c base m l ao cv wr) (hg : wr.grownBy w2 none) : Rel w A n c base m l ao cv w2 where
  own := h.own.kept hg (by
    cases hv : (Value.slice ao l.length cv).ownBlock with
    | none => exact .inl rfl
    | some k => exact .inr (by simp))
  hb := h.hb
  cur := Cur.below h.cur (below_none hg)
  code := ByteCode.below' h.code (below_none hg) h.bel.size
  bel := h.bel.grown hg h.bel.size (by simp)
  sz := Nat.le_trans h.sz hg.size
theorem Rel.app {w : World} {A : Option Addr} {n c base m cv : Nat} {l : List ByteArray} {ao : Option Addr} {wr w3 : World} {x : ByteArray} {v' : Value} (h : Rel w A n c base m l ao cv wr)
    (hown : w3.ownsRow base 9 1 v' (l.length + 1) (l.map Value.string ++ [.string x])) (hg : wr.grownBy w3 (Value.slice ao l.length cv).ownBlock) :
    ∃ g cap, v' = .slice (some ⟨g, 0, none⟩) (l ++ [x]).length cap ∧ Rel w A n c base m (l ++ [x]) (some ⟨g, 0, none⟩) cap w3 := by
  obtain ⟨g, cap, rfl⟩ : ∃ g cap, v' = .slice (some ⟨g, 0, none⟩) (l.length + 1) cap := by
    rcases hown.2 with ⟨_, h⟩ | ⟨g3, cap3, _, h, _⟩
    · omega
    · exact ⟨g3, cap3, h⟩
  have el : (l ++ [x]).length = l.length + 1 := by simp
  have em : (l ++ [x]).map Value.string = l.map Value.string ++ [.string x] := by simp
  have hne : ∀ k, (Value.slice ao l.length cv).ownBlock = some k → w.heap.size < k := fun k hk => Nat.lt_of_lt_of_le h.hb (h.own.lt k hk).1
  refine ⟨g, cap, by rw [el], ⟨by rw [el, em]; exact hown, h.hb, ?_, ?_, h.bel.grown hg h.bel.size (fun k hk => Nat.le_of_lt (hne k hk)), Nat.le_trans h.sz hg.size⟩⟩
  · obtain ⟨k, s, hk, hh⟩ := h.cur
    refine ⟨k, s, hk, ?_⟩
    rw [hg.block w.heap.size (Array.getElem?_eq_some_iff.1 hh).1 (fun e => by have := hne _ e.symm; omega)]
    exact hh
  · intro i hi
    obtain ⟨ad, z, e, hbl, hc, r⟩ := h.code i hi
    refine ⟨ad, z, e, hbl, hg.cell hc (fun e2 => ?_), r⟩
    rw [add_block] at e2
    have := hne _ e2.symm
    omega

theorem all_snoc {l : List ByteArray} {z : ByteArray} {m : Nat} (h : ∀ x ∈ l, x.size ≤ m) (hz : z.size ≤ m) : ∀ x ∈ l ++ [z], x.size ≤ m := by
  intro x hx
  rcases List.mem_append.1 hx with h1 | h1
  · exact h x h1
  · obtain rfl : x = z := by simpa using h1
    exact hz
theorem all_mono {l : List ByteArray} {m m' : Nat} (h : ∀ x ∈ l, x.size ≤ m) (hm : m ≤ m') : ∀ x ∈ l, x.size ≤ m' := fun x hx => Nat.le_trans (h x hx) hm
def JoinPost (w : World) (e : Ending) (w' : World) : Prop :=
  ∃ (g cap : Nat) (l : List ByteArray) (sep : ByteArray), e = .returned (.tuple #[.slice (some ⟨g, 0, none⟩) l.length cap, .string sep]) ∧
    w'.ownsRow w.heap.size 9 1 (.slice (some ⟨g, 0, none⟩) l.length cap) l.length (l.map Value.string) ∧ l.length ≤ cap ∧ l.length ≤ 4 ∧ (∀ x ∈ l, x.size ≤ 4010) ∧ sep.size ≤ 2 ∧ Below w.heap.size w w'

theorem owns_empty (w : World) (base : Nat) (e : TypeId) (h : base ≤ w.heap.size) : (w.alloc (.cells #[] e)).ownsRow base e 1 (.slice (some ⟨w.heap.size, 0, none⟩) 0 0) 0 [] :=
  ⟨rfl, .inr ⟨w.heap.size, 0, #[], rfl, h, heap_alloc_new w _, Nat.le_refl _, by unfold maxLen; omega, rfl, rfl⟩⟩
theorem own_cap {w : World} {base n g c : Nat} {e : TypeId} {xs : List Value} (h : w.ownsRow base e 1 (.slice (some ⟨g, 0, none⟩) n c) n xs) : n ≤ c := by
  rcases h.2 with ⟨h0, _⟩ | ⟨g3, cap3, cu, h0, h1, h2, h3, _⟩
  · injection h0 with h1; simp at h1
  · injection h0 with _ _ h0; omega
theorem own_base {w : World} {base base' n g c : Nat} {e : TypeId} {xs : List Value} (h : w.ownsRow base e 1 (.slice (some ⟨g, 0, none⟩) n c) n xs) (hb : base' ≤ base) : w.ownsRow base' e 1 (.slice (some ⟨g, 0, none⟩) n c) n xs := by
  refine ⟨h.1, ?_⟩
  rcases h.2 with h0 | ⟨g3, cap3, cu, h0, h1, r⟩
  · exact .inl h0
  · exact .inr ⟨g3, cap3, cu, h0, by omega, r⟩

set_option maxHeartbeats 2000000 in
theorem drawJoin_any (w : World) (A : Option Addr) (n c : Nat) (hc : ByteCode w w.heap.size A n) (hn : n ≤ 9223372036854775807) :
    Calls Try.prog 11 #[.slice A n c] w (JoinPost w) := by
  obtain ⟨i0, hi, hz0, hz1, hz2⟩ := info_parts infoB
  obtain ⟨s0, si, sz0, sz1, sz2⟩ := info_parts infoS
  obtain ⟨w1, hw1⟩ : ∃ w1, w.alloc (.cells #[.slice A n c, .int .i64 0, .int .u64 0] 44) = w1 := ⟨_, rfl⟩
  have hsz : w1.heap.size = w.heap.size + 1 := by rw [← hw1]; exact Array.size_push ..
  obtain ⟨w2, hw2⟩ : ∃ w2, w1.alloc (.cells #[] 9) = w2 := ⟨_, rfl⟩
  have R2 : Hid (Rel w A n c w1.heap.size 0 [] (some ⟨w1.heap.size, 0, none⟩) 0 w2) := Lib.hid (by
    refine ⟨?_, by omega, ?_, ?_, ?_, ?_⟩
    · rw [← hw2]; exact owns_empty w1 _ _ (Nat.le_refl _)
    · rw [← hw2]; exact Cur.below (hw1 ▸ start_cur w A n c) (below_alloc w1 _)
    · rw [← hw2]; exact ByteCode.below' (hw1 ▸ ByteCode.below hc (below_alloc w _)) (below_alloc w1 _) (by omega)
    · rw [← hw2]; exact (hw1 ▸ below_alloc w _ : Below w.heap.size w w1).alloc (by omega) _
    · rw [← hw2]; exact (below_alloc w1 _).size)
  clear hsz
  clear hc
  go_enter Try.func11, Try.ntmps11
  go_wp2_with fail
  clear hw1 hw2
  go_at_call 28
  refine (pick_any w2 w.heap.size w.heap.size A n c 0 4 R2.out.code (Nat.le_refl _) R2.out.cur (by omega) hn (by omega) (by omega)).mono ?_
  rintro e w3 ⟨x, rfl, h0, h1, hU3, hG3⟩
  obtain ⟨N, rfl⟩ : ∃ i : Nat, x = i := ⟨x.toNat, by omega⟩
  have R3 := Lib.hid (R2.out.call hU3 hG3)
  clear hU3 hG3 R2
  go_wp2_with fail
  go_loopw [5, 7] (fun v i wr => ∃ (k : Nat) (l : List ByteArray) (ao : Option Addr) (cv : Nat), k ≤ N ∧ i = .int .i64 k ∧ v = .slice ao l.length cv ∧ Hid (l.length = k) ∧ Hid (∀ x ∈ l, x.size ≤ 10) ∧ Hid (Rel w A n c w1.heap.size (2 + 2 * k) l ao cv wr) ∧ Hid (∃ g, ao = some ⟨g, 0, none⟩)) (fun _ i _ => N - (intOf i).toNat)
  case atStart => exact ⟨0, [], _, _, Nat.zero_le _, rfl, rfl, Lib.hid rfl, Lib.hid (by intro x hx; simp at hx), R3, Lib.hid ⟨_, rfl⟩⟩
  case round =>
    obtain ⟨k, l, ao, cv, hk, rfl, rfl, hl, hx, hR, hao⟩ := hrel
    by_cases hlt : k < N
    · go_wp2_with fail
      go_at_call 25
      refine (any1_any wr w.heap.size w.heap.size A n c (2 + 2 * k) hR.out.code (Nat.le_refl _) hR.out.cur (by omega) hn).mono ?_
      rintro e w4 ⟨z, rfl, hz, hU4, hG4⟩
      have Z := Lib.hid (short_any z hz)
      have R4 := Lib.hid (hR.out.call hU4 hG4)
      clear hU4 hG4 hz hR
      go_wp2_with (at_builtin; refine wpList_append_own _ rfl _ _ 26 rfl w1.heap.size 9 s0 (.string ByteArray.empty) 1 16 Try.underlying26 si sz0 sz1 sz2 rfl (by decide) _ _ _ rfl (R4.out.alloc _).own ⟨w4.heap.size, 0, none⟩ 1 1 [.string z] rfl rfl (cell_one_new _ _ _) (fun x hx => by simp at hx; subst hx; rfl) (by have := hl.out; unfold maxLen; omega) (by have := hl.out; omega) (R4.out.alloc _).sz ?_; intro v' w5 hown' hgrow3 hnil3; clear hnil3; obtain ⟨g, cap, rfl, HR'⟩ := (R4.out.alloc _).app hown' hgrow3; have R5 := Lib.hid HR'; clear hown' hgrow3 HR')
      go_roundw
      case rel => exact ⟨k + 1, l ++ [z], _, _, by omega, by go_num, by rw [List.length_append]; rfl, Lib.hid (by have := hl.out; simp; omega), Lib.hid (all_snoc hx.out Z.out), R5, Lib.hid ⟨_, rfl⟩⟩
      case measure => simp [intOf]; omega
    · obtain rfl : k = N := by omega
      go_wp2_with fail
      go_at_call 29
      refine (one_any wr w.heap.size w.heap.size A n c (2 + 2 * k) 20 hR.out.code (Nat.le_refl _) hR.out.cur (by omega) hn (by omega) (by omega)).mono ?_
      rintro e w4 ⟨b, rfl, hU4, hG4⟩
      have R4 := Lib.hid (hR.out.call hU4 hG4)
      clear hU4 hG4 hR
      cases b with
      | true =>
        go_wp2_with fail
        go_at_call 28
        refine (pick_any w4 w.heap.size w.heap.size A n c (2 + 2 * k + 2) 20 R4.out.code (Nat.le_refl _) R4.out.cur (by omega) hn (by omega) (by omega)).mono ?_
        rintro e w5 ⟨x, rfl, p0, p1, hU5, hG5⟩
        obtain ⟨i, rfl⟩ : ∃ i : Nat, x = i := ⟨x.toNat, by omega⟩
        have R5 := Lib.hid (R4.out.call hU5 hG5)
        clear hU5 hG5 R4
        go_wp2_with (first | (at_make; refine wpList_make_full _ rfl _ _ 22 rfl w5.heap.size 5 i0 (.int .u8 0) 1 Try.underlying22 hi hz0 hz1 .i64 .i64 _ _ (3990 + i) rfl rfl (by omega) (by omega) (by rw [hz2]; omega) (by unfold maxLen; omega) (Nat.le_refl _) ?_; intro w6 hO hG6; have hcv := conv_zeros w6 _ _ _ hO; have R6 := Lib.hid (R5.out.quiet hG6); clear hO hG6) | (at_builtin; refine wpList_append_own _ rfl _ _ 26 rfl w1.heap.size 9 s0 (.string ByteArray.empty) 1 16 Try.underlying26 si sz0 sz1 sz2 rfl (by decide) _ _ _ rfl (R6.out.alloc _).own ⟨w6.heap.size, 0, none⟩ 1 1 [.string (zeros (3990 + i))] rfl rfl (cell_one_new _ _ _) (fun x hx => by simp at hx; subst hx; rfl) (by have := hl.out; unfold maxLen; omega) (by have := hl.out; omega) (R6.out.alloc _).sz ?_; intro v' w7 hown' hgrow3 hnil3; clear hnil3; obtain ⟨g, cap, rfl, HR'⟩ := (R6.out.alloc _).app hown' hgrow3; have R7 := Lib.hid HR'; clear hown' hgrow3 HR'))
        have L8 : Hid (Strs (w7.alloc (.cells #[.string ⟨#[44]⟩, .string ⟨#[59]⟩, .string ⟨#[59]⟩, .string ⟨#[]⟩, .string ⟨#[97, 98]⟩] 9)) (some ⟨w7.heap.size, 0, none⟩) 5 markL) := Lib.hid (lit_strs w7 9 markL)
        have R8 := Lib.hid (R7.out.alloc (.cells #[.string ⟨#[44]⟩, .string ⟨#[59]⟩, .string ⟨#[59]⟩, .string ⟨#[]⟩, .string ⟨#[97, 98]⟩] 9))
        have hne : Hid (w7.heap.size ≠ w.heap.size) := Lib.hid (by have := R7.out.sz; have := R7.out.hb; omega)
        go_at_call 26
        refine (of_any _ w.heap.size w.heap.size A _ n c _ 5 5 markL R8.out.code (Nat.le_refl _) R8.out.cur (by omega) hn L8.out (by omega) (by omega) (by intro ad e; injection e with e; subst e; exact hne.out)).mono ?_
        rintro e w9 ⟨y, rfl, hy, hU9, hG9⟩
        have Y := Lib.hid (short_mark y hy)
        have R9 := Lib.hid (R8.out.call hU9 hG9)
        have X9 := Lib.hid (all_snoc (all_mono hx.out (by omega : 10 ≤ 4010)) (show (zeros (3990 + i)).size ≤ 4010 by rw [zeros_size]; omega))
        clear hU9 hG9 hy R8 R7 L8 hne
        go_wp2_with fail
        go_ret2
        exact ⟨g, cap, l ++ [zeros (3990 + i)], y, by rw [List.length_append]; rfl, own_base R9.out.own (Nat.le_of_lt R9.out.hb), own_cap R9.out.own, by have := hl.out; rw [List.length_append]; show l.length + 1 ≤ 4; omega, X9.out, Y.out, R9.out.bel⟩
      | false =>
        obtain ⟨g, rfl⟩ := hao.out
        go_wp2_with fail
        have L8 : Hid (Strs (w4.alloc (.cells #[.string ⟨#[44]⟩, .string ⟨#[59]⟩, .string ⟨#[59]⟩, .string ⟨#[]⟩, .string ⟨#[97, 98]⟩] 9)) (some ⟨w4.heap.size, 0, none⟩) 5 markL) := Lib.hid (lit_strs w4 9 markL)
        have R8 := Lib.hid (R4.out.alloc (.cells #[.string ⟨#[44]⟩, .string ⟨#[59]⟩, .string ⟨#[59]⟩, .string ⟨#[]⟩, .string ⟨#[97, 98]⟩] 9))
        have hne : Hid (w4.heap.size ≠ w.heap.size) := Lib.hid (by have := R4.out.sz; have := R4.out.hb; omega)
        go_at_call 26
        refine (of_any _ w.heap.size w.heap.size A _ n c _ 5 5 markL R8.out.code (Nat.le_refl _) R8.out.cur (by omega) hn L8.out (by omega) (by omega) (by intro ad e; injection e with e; subst e; exact hne.out)).mono ?_
        rintro e w9 ⟨y, rfl, hy, hU9, hG9⟩
        have Y := Lib.hid (short_mark y hy)
        have R9 := Lib.hid (R8.out.call hU9 hG9)
        have X9 := Lib.hid (all_mono hx.out (by omega : 10 ≤ 4010))
        clear hU9 hG9 hy R8 L8 hne
        go_wp2_with fail
        go_ret2
        exact ⟨g, cv, l, y, rfl, own_base R9.out.own (Nat.le_of_lt R9.out.hb), own_cap R9.out.own, by have := hl.out; omega, X9.out, Y.out, R9.out.bel⟩
end Go.Proofs.Ytohgfphbgpjamaa.DrawSplit
