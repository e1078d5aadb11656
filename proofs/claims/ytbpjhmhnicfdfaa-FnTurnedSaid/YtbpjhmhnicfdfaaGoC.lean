/- The drawing cursor as a tape of numbers from 0 to 255: what it is in memory, and the contract of its method next. Conditions: its bytes read as bytes, and it has been asked fewer than 2^62 times. -/
import Derived.Test.YtbpjhmhnicfdfaaChecked
import Derived.Test.YtbpjhmhnicfdfaaGoM
import Derived.WalkKit
import Derived.Lib.Hide
import Derived.WalkSpells
import Derived.BigQuiet
import Derived.Deep.QuietTactic
import Derived.Laws.AppendOwn
import Derived.IntWalk
import Derived.Laws.Bits64
import Derived.Outline
namespace Go.Proofs.Ytbpjhmhnicfdfaa.GoC
set_option linter.unusedVariables false
open Go.RowKit
open Go.Proofs.Ytbpjhmhnicfdfaa.Rowed Go.Proofs.Ytbpjhmhnicfdfaa.Turn Go.Proofs.Ytbpjhmhnicfdfaa.GoM

/-- what a cursor will give, and how often it may be asked -/
structure Tape where
  vals : Nat → Int
  left : Nat
def Tape.tail (t : Tape) : Tape := ⟨fun i => t.vals (i + 1), t.left - 1⟩
def u8s (l : List Int) : List Value := l.map (fun z => Value.int .u8 z)
theorem u8s_len (l : List Int) : (u8s l).length = l.length := by simp [u8s]
theorem u8s_at (l : List Int) (k : Nat) : (u8s l)[k]? = (l[k]?).map (Value.int .u8) := by simp [u8s]
/-- the cell block of a cursor over the bytes 'A, c' -/
def At (w : World) (b g : Nat) (A : Option Addr) (c : Nat) (code : List Int) (k : Nat) (seed : Int) : Prop :=
  b ≤ g ∧ w.heap[g]? = some (.cells #[.slice A code.length c, .int .i64 k, .int .u64 seed] 46 (0, 0)) ∧ Cells w 1 A code.length (u8s code) ∧ (∀ a, A = some a → 0 < code.length → a.block < b)
/-- asked there, the cursor gives x, and its seed is then s -/
def Step (code : List Int) (k : Nat) (seed x s : Int) : Prop :=
  (0 ≤ x ∧ x ≤ 255) ∧ ∀ w b g A c, At w b g A c code k seed → Calls Try.prog 51 #[.pointer (some ⟨g, 0, none⟩)] w (fun e w' => e = .returned (.int .i64 x) ∧ At w' b g A c code (k + 1) s ∧ w.grownBy w' (some g))
def Emits (code : List Int) (k : Nat) (seed : Int) (t : Tape) : Prop :=
  k + t.left ≤ 4611686018427387904 ∧ ∃ seeds : Nat → Int, seeds 0 = seed ∧ ∀ i, i < t.left → Step code (k + i) (seeds i) (t.vals i) (seeds (i + 1))
/-- block g is a cursor that will give t -/
def CurIs (w : World) (b g : Nat) (A : Option Addr) (c : Nat) (t : Tape) : Prop := ∃ code k seed, At w b g A c code k seed ∧ Emits code k seed t

theorem cells3 {w : World} {g : Nat} {t : TypeId} {x y z : Value} (h : w.heap[g]? = some (.cells #[x, y, z] t (0, 0))) :
    w.cell? ⟨g, 0, none⟩ = some x ∧ w.cell? ⟨g, 1, none⟩ = some y ∧ w.cell? ⟨g, 2, none⟩ = some z ∧ (∀ i, w.frozen? ⟨g, i, none⟩ = false) :=
  ⟨by simp [World.cell?, h], by simp [World.cell?, h], by simp [World.cell?, h], fun i => by simp [World.frozen?, h]⟩
theorem stored {w W2 : World} {g n1 : Nat} {t : TypeId} {x y z u v : Value} (hb : w.heap[g]? = some (.cells #[x, y, z] t (0, 0)))
    (hW : ((w.drewN n1).setCell ⟨g, 1, none⟩ u).setCell ⟨g, 2, none⟩ v = W2) : W2.heap[g]? = some (.cells #[x, u, v] t (0, 0)) ∧ w.grownBy W2 (some g) := by
  subst hW
  refine ⟨by simp [World.setCell, Array.getElem?_modify, hb], ⟨rfl, rfl, rfl, by simp [World.setCell], fun k _ hk => ?_⟩⟩
  have hne : k ≠ g := fun e => hk (by rw [e])
  rw [Below.heap_setCell _ _ _ _ hne, Below.heap_setCell _ _ _ _ hne]
  rfl
theorem grown_drewN {w w' : World} {r : Option Nat} (h : w.grownBy w' r) (n : Nat) : w.grownBy (w'.drewN n) r := ⟨h.os, h.tape, h.output, h.size, h.block⟩
theorem add_block (a : Addr) (n : Nat) : (a.add n).block = a.block := by unfold Addr.add; split <;> rfl
theorem cells_kept {w w' : World} {K g n : Nat} {A : Option Addr} {xs : List Value} (h : Cells w K A n xs) (hg : w.grownBy w' (some g)) (hA : ∀ a, A = some a → 0 < xs.length → a.block ≠ g) : Cells w' K A n xs := by
  refine ⟨h.1, fun h0 => ?_⟩
  obtain ⟨ad, e, hc⟩ := h.2 h0
  refine ⟨ad, e, fun j u hu => ?_⟩
  have h1 := hc j u hu
  have hlt := cell_lt h1
  rw [World.cell?_of_block (w := w) (w' := w') (hg.block _ hlt (by rw [add_block]; intro e2; injection e2 with e3; exact hA ad e h0 e3))]
  exact h1
theorem and255 (y : Int) : 0 ≤ wrap64 (bits .and .u64 y 255) ∧ wrap64 (bits .and .u64 y 255) ≤ 255 := by
  have h : 0 ≤ bits .and .u64 y 255 ∧ bits .and .u64 y 255 ≤ 255 := by
    have h1 : (BitVec.ofInt 64 y &&& BitVec.ofInt 64 255).toNat ≤ 255 := by
      rw [BitVec.toNat_and]
      exact Nat.le_trans Nat.and_le_right (by decide)
    show 0 ≤ IntKind.u64.wrap ((BitVec.ofInt 64 y &&& BitVec.ofInt 64 255).toNat : Int) ∧ IntKind.u64.wrap ((BitVec.ofInt 64 y &&& BitVec.ofInt 64 255).toNat : Int) ≤ 255
    rw [IntKind.wrap_u64]
    omega
  rw [IntWalk.wrap64_in _ ⟨by omega, by omega⟩]
  exact h

set_option maxHeartbeats 1000000 in
theorem step_any (code : List Int) (hb : ∀ z ∈ code, 0 ≤ z ∧ z ≤ 255) (hn : code.length ≤ 9223372036854775807) (k : Nat) (seed : Int) (hm : k < 4611686018427387904) : ∃ x s, Step code k seed x s := by
  by_cases hlt : k < code.length
  · obtain ⟨z, hzz⟩ : ∃ z, code[k]? = some z := ⟨code[k], List.getElem?_eq_getElem hlt⟩
    have hz := hb z (List.mem_of_getElem? hzz)
    refine ⟨z, IntKind.u64.wrap (IntKind.u64.wrap (IntKind.u64.wrap (seed * 6364136223846793005) + z) + 381907), ⟨?h0, ?h1⟩, fun w b g A c h => ?walk⟩
    case walk =>
      obtain ⟨hbg, hb, hcs, hA⟩ := h
      obtain ⟨ad, rfl, hc⟩ := hcs.2 (by unfold u8s; rw [List.length_map]; omega)
      have hcell := hc k _ (by unfold u8s; rw [List.getElem?_map, hzz]; rfl)
      obtain ⟨c0, c1, c2, hf⟩ := cells3 hb
      have f1 := hf 1
      have f2 := hf 2
      have HB := Lib.hid hb
      have HK := Lib.hid hcs
      have b1 : 0 ≤ (k : Int) := by omega
      have b2 : (k : Int) < code.length := by omega
      clear hb hf hc hcs
      have HA := Lib.hid hA
      clear hA
      go_enter Try.func51, Try.ntmps51
      go_wp2_with fail
      go_quiet (fail)
      go_wp2_with fail
      go_quiet (fail)
      go_wp2_with fail
      generalize hW2 : (World.setCell (World.setCell (World.drewN w _) ⟨g, 1, none⟩ _) ⟨g, 2, none⟩ _) = W2
      obtain ⟨hb2, hg2⟩ := stored HB.out hW2
      obtain ⟨d0, d1, d2, df⟩ := cells3 hb2
      have HB2 := Lib.hid hb2
      have HG2 := Lib.hid hg2
      clear hb2 hg2 df hW2 HB c0 c1 c2 f1 f2
      go_quiet (fail)
      go_wp2_with fail
      go_ret
      exact ⟨rfl, ⟨hbg, by rw [show ((k + 1 : Nat) : Int) = (k : Int) + 1 by omega]; exact HB2.out, cells_kept HK.out (grown_drewN HG2.out _) (fun a e h0 e2 => by have := HA.out a e (by unfold u8s at h0; rwa [List.length_map] at h0); omega), HA.out⟩, grown_drewN HG2.out _⟩
    case h0 => exact hz.1
    case h1 => exact hz.2
  · refine ⟨wrap64 (bits .and .u64 (IntKind.u64.wrap (IntKind.u64.wrap (IntKind.u64.wrap (seed * 6364136223846793005)) + 381907) / 1099511627776) 255), IntKind.u64.wrap (IntKind.u64.wrap (IntKind.u64.wrap (seed * 6364136223846793005)) + 381907), ⟨?h0, ?h1⟩, fun w b g A c h => ?walk⟩
    case walk =>
      obtain ⟨hbg, hb, hcs, hA⟩ := h
      obtain ⟨c0, c1, c2, hf⟩ := cells3 hb
      have f1 := hf 1
      have f2 := hf 2
      have HB := Lib.hid hb
      have HK := Lib.hid hcs
      have HA := Lib.hid hA
      have b2 : (code.length : Int) ≤ k := by omega
      have b3 : ¬ ((k : Int) + 1 ≤ code.length) := by omega
      clear hb hf hcs hA
      go_enter Try.func51, Try.ntmps51
      go_wp2_with fail
      go_quiet (fail)
      go_wp2_with fail
      generalize hW2 : (World.setCell (World.setCell (World.drewN w _) ⟨g, 1, none⟩ _) ⟨g, 2, none⟩ _) = W2
      obtain ⟨hb2, hg2⟩ := stored HB.out hW2
      obtain ⟨d0, d1, d2, df⟩ := cells3 hb2
      have HB2 := Lib.hid hb2
      have HG2 := Lib.hid hg2
      clear hb2 hg2 df hW2 HB c0 c1 c2 f1 f2
      go_quiet (fail)
      go_wp2_with fail
      go_ret
      exact ⟨rfl, ⟨hbg, by rw [show ((k + 1 : Nat) : Int) = (k : Int) + 1 by omega]; exact HB2.out, cells_kept HK.out (grown_drewN HG2.out _) (fun a e h0 e2 => by have := HA.out a e (by unfold u8s at h0; rwa [List.length_map] at h0); omega), HA.out⟩, grown_drewN HG2.out _⟩
    case h0 => exact (and255 _).1
    case h1 => exact (and255 _).2
/-- a tape for each row of bytes -/
def Tells (tapes : List Int → Tape) : Prop := (∀ code, (tapes code).left = 4611686018427387904) ∧ (∀ code i, 0 ≤ (tapes code).vals i ∧ (tapes code).vals i ≤ 255) ∧
  ∀ code, (∀ z ∈ code, 0 ≤ z ∧ z ≤ 255) → code.length ≤ 9223372036854775807 → Emits code 0 0 (tapes code)
theorem tells_one (code : List Int) : ∃ t : Tape, t.left = 4611686018427387904 ∧ (∀ i, 0 ≤ t.vals i ∧ t.vals i ≤ 255) ∧ ((∀ z ∈ code, 0 ≤ z ∧ z ≤ 255) → code.length ≤ 9223372036854775807 → Emits code 0 0 t) := by
  by_cases hc : (∀ z ∈ code, 0 ≤ z ∧ z ≤ 255) ∧ code.length ≤ 9223372036854775807
  · have hs : ∀ (k : Nat) (seed : Int), ∃ p : Int × Int, (0 ≤ p.1 ∧ p.1 ≤ 255) ∧ (k < 4611686018427387904 → Step code k seed p.1 p.2) := by
      intro k seed
      by_cases hk : k < 4611686018427387904
      · obtain ⟨x, s, h⟩ := step_any code hc.1 hc.2 k seed hk
        exact ⟨(x, s), h.1, fun _ => h⟩
      · exact ⟨(0, 0), by omega, fun h => absurd h hk⟩
    have ⟨f, hf⟩ : ∃ f : Nat → Int → Int × Int, ∀ k seed, (0 ≤ (f k seed).1 ∧ (f k seed).1 ≤ 255) ∧ (k < 4611686018427387904 → Step code k seed (f k seed).1 (f k seed).2) :=
      ⟨fun k seed => Classical.choose (hs k seed), fun k seed => Classical.choose_spec (hs k seed)⟩
    obtain ⟨seeds, h0, h1⟩ : ∃ seeds : Nat → Int, seeds 0 = 0 ∧ ∀ i, seeds (i + 1) = (f i (seeds i)).2 := ⟨fun n => Nat.rec 0 (fun i s => (f i s).2) n, rfl, fun i => rfl⟩
    refine ⟨⟨fun i => (f i (seeds i)).1, 4611686018427387904⟩, rfl, fun i => (hf i (seeds i)).1, fun _ _ => ⟨by show 0 + 4611686018427387904 ≤ 4611686018427387904; omega, seeds, h0, fun i hi => ?_⟩⟩
    have := (hf i (seeds i)).2 hi
    rw [h1, Nat.zero_add]
    exact this
  · exact ⟨⟨fun _ => 0, 4611686018427387904⟩, rfl, fun _ => ⟨Int.le_refl 0, (by decide : (0 : Int) ≤ 255)⟩, fun h1 h2 => absurd ⟨h1, h2⟩ hc⟩
theorem tells : ∃ tapes, Tells tapes := by
  have ⟨f, hf⟩ : ∃ f : List Int → Tape, ∀ code, (f code).left = 4611686018427387904 ∧ (∀ i, 0 ≤ (f code).vals i ∧ (f code).vals i ≤ 255) ∧ ((∀ z ∈ code, 0 ≤ z ∧ z ≤ 255) → code.length ≤ 9223372036854775807 → Emits code 0 0 (f code)) :=
    ⟨fun code => Classical.choose (tells_one code), fun code => Classical.choose_spec (tells_one code)⟩
  exact ⟨f, fun code => (hf code).1, fun code => (hf code).2.1, fun code => (hf code).2.2⟩

theorem cur_lt {w : World} {b g c : Nat} {A : Option Addr} {t : Tape} (h : CurIs w b g A c t) : b ≤ g ∧ g < w.heap.size := by
  obtain ⟨code, k, seed, ⟨h1, h2, _⟩, _⟩ := h
  refine ⟨h1, ?_⟩
  rcases Nat.lt_or_ge g w.heap.size with hl | hl
  · exact hl
  · rw [Array.getElem?_eq_none hl] at h2; cases h2
theorem cells_lt {w : World} {K n : Nat} {a : Addr} {xs : List Value} (h : Cells w K (some a) n xs) (h0 : 0 < xs.length) : a.block < w.heap.size := by
  obtain ⟨ad, e, hc⟩ := h.2 h0
  obtain rfl := Option.some.inj e
  have := cell_lt (hc 0 xs[0] (List.getElem?_eq_getElem h0))
  rwa [add_block] at this
theorem cur_below {w w' : World} {b g c : Nat} {A : Option Addr} {t : Tape} (h : CurIs w b g A c t) (hb : Below w.heap.size w w') : CurIs w' b g A c t := by
  have hl := cur_lt h
  obtain ⟨code, k, seed, ⟨h1, h2, h3, h4⟩, hE⟩ := h
  exact ⟨code, k, seed, ⟨h1, by rw [hb.block g hl.2]; exact h2, Cells.below h3 hb, h4⟩, hE⟩
/-- another row is written, one that is younger than the bytes -/
theorem cur_other {w w' : World} {b g c n' c' : Nat} {A A' : Option Addr} {t : Tape} (h : CurIs w b g A c t) (hg : w.grownBy w' (Value.slice A' n' c').ownBlock) (hD : Apart A' (some ⟨g, 0, none⟩)) (ho : ∀ a, A' = some a → b ≤ a.block) : CurIs w' b g A c t := by
  have hl := cur_lt h
  obtain ⟨code, k, seed, ⟨h1, h2, h3, h4⟩, hE⟩ := h
  refine ⟨code, k, seed, ⟨h1, ?_, ?_, h4⟩, hE⟩
  · rw [hg.block g hl.2 ?_]
    · exact h2
    · cases A' with
      | none => simp [Value.ownBlock]
      | some x => simp only [Value.ownBlock, ne_eq, Option.some.injEq]; exact fun e => hD x _ rfl rfl e.symm
  · refine ⟨h3.1, fun h0 => ?_⟩
    obtain ⟨ad, e, hc⟩ := h3.2 h0
    refine ⟨ad, e, fun j u hu => ?_⟩
    have h5 := hc j u hu
    have hlt := cell_lt h5
    rw [World.cell?_of_block (w := w) (w' := w') (hg.block _ hlt ?_)]
    · exact h5
    · rw [add_block]
      cases A' with
      | none => simp [Value.ownBlock]
      | some x =>
        simp only [Value.ownBlock, ne_eq, Option.some.injEq]
        intro e2
        have := ho x rfl
        have := h4 ad e (by unfold u8s at h0; rwa [List.length_map] at h0)
        omega
/-- a cursor that is laid now -/
theorem cur_new {w : World} {b c : Nat} {A : Option Addr} {code : List Int} {t : Tape} (hb : b ≤ w.heap.size) (hc : Cells w 1 A code.length (u8s code)) (hA : ∀ a, A = some a → 0 < code.length → a.block < b) (hE : Emits code 0 0 t) :
    CurIs (w.alloc (.cells #[.slice A code.length c, .int .i64 0, .int .u64 0] 46)) b w.heap.size A c t :=
  ⟨code, 0, 0, ⟨hb, heap_alloc_new w _, Cells.below hc ((Below.refl _ _).alloc (Nat.le_refl _) _), hA⟩, hE⟩
theorem grown_new {w wr w2 : World} {r : Option Nat} {n c : Nat} {A : Option Addr} (h : w.grownBy wr r) (hg : wr.grownBy w2 (Value.slice A n c).ownBlock) (ho : ∀ a, A = some a → w.heap.size ≤ a.block) : w.grownBy w2 r :=
  ⟨hg.os.trans h.os, hg.tape.trans h.tape, hg.output.trans h.output, Nat.le_trans h.size hg.size, fun i hi hr => (hg.block i (Nat.lt_of_lt_of_le hi h.size) (by
    cases A with
    | none => simp [Value.ownBlock]
    | some x => simp only [Value.ownBlock, ne_eq, Option.some.injEq]; intro e; have := ho x rfl; omega)).trans (h.block i hi hr)⟩
theorem own_ge {w : World} {b T K n m c : Nat} {A : Option Addr} {xs : List Value} (h : w.ownsRow b T K (.slice A m c) n xs) : ∀ a, A = some a → b ≤ a.block := fun a e => (own_lt h a e).1
theorem u8_at {w : World} {A : Option Addr} {n k : Nat} {l : List Int} (h : Cells w 1 A n (u8s l)) (hk : k < n) : ∃ (b o : Nat) (x : Int), A = some ⟨b, o, none⟩ ∧ l[k]? = some x ∧ w.cell? ⟨b, o + k, none⟩ = some (.int .u8 x) := by
  have hl : k < l.length := by have := h.1; unfold u8s at this; rw [List.length_map] at this; omega
  obtain ⟨⟨b, o, sp⟩, e, hc⟩ := h.2 (by unfold u8s; rw [List.length_map]; omega)
  have h0 := hc 0 (.int .u8 l[0]) (by unfold u8s; rw [List.getElem?_map, List.getElem?_eq_getElem (show 0 < l.length by omega)]; rfl)
  obtain rfl : sp = none := cell_spot (b := b) (o := o) h0
  have hs := List.getElem?_eq_getElem hl
  have := hc k (.int .u8 l[k]) (by unfold u8s; rw [List.getElem?_map, hs]; rfl)
  rw [add_flat] at this
  exact ⟨b, o, l[k], e, hs, this⟩
theorem apart_cur {w : World} {b g c : Nat} {A : Option Addr} {t : Tape} (h : CurIs w b g A c t) : Apart (some ⟨w.heap.size, 0, none⟩) (some ⟨g, 0, none⟩) := by
  intro a a' ha ha' e
  have := (cur_lt h).2
  injection ha with ha
  injection ha' with ha'
  subst ha
  subst ha'
  simp at e
  omega
theorem apart_callcur {w w1 : World} {T K n m c b g c' : Nat} {A A' : Option Addr} {xs : List Value} {t : Tape} (h1 : w1.ownsRow w.heap.size T K (.slice A m c) n xs) (h : CurIs w b g A' c' t) : Apart A (some ⟨g, 0, none⟩) := by
  intro a a' ha ha' e
  have := (cur_lt h).2
  have := (own_lt h1 a ha).1
  injection ha' with ha'
  subst ha'
  simp at e
  omega
theorem apart_x {n g bb oo : Nat} (h : 0 < n → Apart (some ⟨bb, oo, none⟩) (some ⟨g, 0, none⟩)) (h0 : 0 < n) : Apart (some ⟨g, 0, none⟩) (some ⟨bb, 0, none⟩) := by
  intro a a' ha ha' e
  injection ha with ha
  injection ha' with ha'
  subst ha
  subst ha'
  exact h h0 ⟨bb, oo, none⟩ ⟨g, 0, none⟩ rfl rfl e.symm
theorem apart_curold {w : World} {b g c bb : Nat} {A : Option Addr} {t : Tape} (h : CurIs w b g A c t) (hl : bb < b) : Apart (some ⟨g, 0, none⟩) (some ⟨bb, 0, none⟩) := by
  intro a a' ha ha' e
  have := (cur_lt h).1
  injection ha with ha
  injection ha' with ha'
  subst ha
  subst ha'
  simp at e
  omega
theorem cells_io {w w' : World} {K n m g : Nat} {A : Option Addr} {xs : List Value} (h : Cells w K A n xs) (hg : w.grownBy w' (Value.slice (some ⟨g, 0, none⟩) 1 1).ownBlock) (hX : 0 < m → Apart A (some ⟨g, 0, none⟩)) (hm : 0 < xs.length → 0 < m := by intro h; first | exact h | (simp only [List.length_map] at h; exact h)) : Cells w' K A n xs :=
  cells_kept h hg (fun a e h0 e2 => hX (hm h0) a ⟨g, 0, none⟩ e rfl e2)
theorem below_cur {w wr w2 : World} {B g : Nat} (h : Below B w wr) (hg : wr.grownBy w2 (Value.slice (some ⟨g, 0, none⟩) 1 1).ownBlock) (hB : B ≤ wr.heap.size) (hk : B ≤ g) : Below B w w2 :=
  h.grown hg hB (fun q hq => by have hq' : some g = some q := hq; injection hq' with e; omega)
/-- next -/
def P (t : Tape) : Option (Int × Tape) := if 0 < t.left then some (t.vals 0, t.tail) else none
theorem C (t : Tape) (w : World) (b g : Nat) (A : Option Addr) (c : Nat) (K : Hid (CurIs w b g A c t)) {r : Int} {t' : Tape} (H : Hid (P t = some (r, t'))) :
    Calls Try.prog 51 #[.pointer (some ⟨g, 0, none⟩)] w (fun e w' => e = .returned (.int .i64 r) ∧ CurIs w' b g A c t' ∧ w.grownBy w' (some g)) := by
  have h : P t = some (r, t') := H
  obtain ⟨code, k, seed, hA, hl, seeds, h0, hs⟩ := K.out
  unfold P at h
  by_cases hk : 0 < t.left
  · rw [if_pos hk] at h
    simp only [Option.some.injEq, Prod.mk.injEq] at h
    obtain ⟨rfl, rfl⟩ := h
    have h1 := hs 0 hk
    rw [h0] at h1
    refine (h1.2 w b g A c hA).mono ?_
    rintro e w' ⟨rfl, a1, a2⟩
    refine ⟨rfl, ⟨code, k + 1, seeds 1, a1, by show k + 1 + (t.left - 1) ≤ _; omega, fun i => seeds (i + 1), rfl, fun i hi => ?_⟩, a2⟩
    have h2 := hs (i + 1) (by have : i < t.left - 1 := hi; omega)
    rw [show k + 1 + i = k + (i + 1) by omega]
    exact h2
  · rw [if_neg hk] at h; simp at h
end Go.Proofs.Ytbpjhmhnicfdfaa.GoC
