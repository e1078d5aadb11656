/- Texts on which the proofs of several laws stand, one behind the other (2 of 10). No condition of their own. -/
import Derived.Test.YtlljmgphgmklcaaDoorChecked
import Derived.Test.YtlljmgphgmklcaaDoorR10P1
import Derived.WalkKit
import Derived.Lib.Hide
import Derived.WalkSpells
import Derived.BigQuiet
import Derived.Deep.QuietTactic
import Derived.Laws.AppendOwn
import Derived.IntWalk
import Derived.Laws.Bits64
import Derived.Outline
import Derived.Lib.SmallJoins
import Derived.Deep.Slices
import Derived.Deep.Fields
import Derived.ChangeSame
import Derived.Lib.LaidU8
import Derived.WalkLawsBesides
import Derived.OwnWalk
import Derived.Deep.LoopGhost
import Derived.Lib.QuietBelow
import Derived.Deep.AppendLies
import Derived.Deep.RegionHeld3
import Derived.Laws.EntriesVeiled
/- The drawing cursor as a tape of numbers from 0 to 255: what it is in memory, and the contract of its method next. Conditions: its bytes read as bytes, and it has been asked fewer than 2^62 times. -/
namespace Go.Proofs.YtlljmgphgmklcaaDoor.GoC
set_option linter.unusedVariables false
open Go.RowKit
open Go.Proofs.YtlljmgphgmklcaaDoor.Rowed Go.Proofs.YtlljmgphgmklcaaDoor.Turn Go.Proofs.YtlljmgphgmklcaaDoor.GoM

/-- what a cursor will give, and how often it may be asked -/
structure Tape where
  vals : Nat → Int
  left : Nat
def Tape.tail (t : Tape) : Tape := ⟨fun i => t.vals (i + 1), t.left - 1⟩
def u8s (l : List Int) : List Value := l.map (fun z => Value.int .u8 z)
theorem u8s_len (l : List Int) : (u8s l).length = l.length := by simp [u8s]
theorem u8s_at (l : List Int) (k : Nat) : (u8s l)[k]? = (l[k]?).map (Value.int .u8) := by simp [u8s]
/-- the cell block of a cursor over the bytes 'A, c' -/
def At (w : World) (b g : Nat) (A : Option Addr) (c : Nat) (code : List Int) (k : Nat) (seed : Int) : Prop :=
  b ≤ g ∧ w.heap[g]? = some (.cells #[.slice A code.length c, .int .i64 k, .int .u64 seed] 46 (0, 0)) ∧ Cells w 1 A code.length (u8s code) ∧ (∀ a, A = some a → 0 < code.length → a.block < b)
/-- asked there, the cursor gives x, and its seed is then s -/
def Step (code : List Int) (k : Nat) (seed x s : Int) : Prop :=
  (0 ≤ x ∧ x ≤ 255) ∧ ∀ w b g A c, At w b g A c code k seed → Calls Tryd.prog 54 #[.pointer (some ⟨g, 0, none⟩)] w (fun e w' => e = .returned (.int .i64 x) ∧ At w' b g A c code (k + 1) s ∧ w.grownBy w' (some g))
def Emits (code : List Int) (k : Nat) (seed : Int) (t : Tape) : Prop :=
  k + t.left ≤ 4611686018427387904 ∧ ∃ seeds : Nat → Int, seeds 0 = seed ∧ ∀ i, i < t.left → Step code (k + i) (seeds i) (t.vals i) (seeds (i + 1))
/-- block g is a cursor that will give t -/
def CurIs (w : World) (b g : Nat) (A : Option Addr) (c : Nat) (t : Tape) : Prop := ∃ code k seed, At w b g A c code k seed ∧ Emits code k seed t

theorem cells3 {w : World} {g : Nat} {t : TypeId} {x y z : Value} (h : w.heap[g]? = some (.cells #[x, y, z] t (0, 0))) :
    w.cell? ⟨g, 0, none⟩ = some x ∧ w.cell? ⟨g, 1, none⟩ = some y ∧ w.cell? ⟨g, 2, none⟩ = some z ∧ (∀ i, w.frozen? ⟨g, i, none⟩ = false) :=
  ⟨by simp [World.cell?, h], by simp [World.cell?, h], by simp [World.cell?, h], fun i => by simp [World.frozen?, h]⟩
theorem stored {w W2 : World} {g n1 : Nat} {t : TypeId} {x y z u v : Value} (hb : w.heap[g]? = some (.cells #[x, y, z] t (0, 0)))
    (hW : ((w.drewN n1).setCell ⟨g, 1, none⟩ u).setCell ⟨g, 2, none⟩ v = W2) : W2.heap[g]? = some (.cells #[x, u, v] t (0, 0)) ∧ w.grownBy W2 (some g) := by
  subst hW
  refine ⟨by simp [World.setCell, Array.getElem?_modify, hb], ⟨rfl, rfl, rfl, by simp [World.setCell], fun k _ hk => ?_⟩⟩
  have hne : k ≠ g := fun e => hk (by rw [e])
  rw [Below.heap_setCell _ _ _ _ hne, Below.heap_setCell _ _ _ _ hne]
  rfl
theorem grown_drewN {w w' : World} {r : Option Nat} (h : w.grownBy w' r) (n : Nat) : w.grownBy (w'.drewN n) r := ⟨h.os, h.tape, h.output, h.size, h.block⟩
theorem add_block (a : Addr) (n : Nat) : (a.add n).block = a.block := by unfold Addr.add; split <;> rfl
theorem cells_kept {w w' : World} {K g n : Nat} {A : Option Addr} {xs : List Value} (h : Cells w K A n xs) (hg : w.grownBy w' (some g)) (hA : ∀ a, A = some a → 0 < xs.length → a.block ≠ g) : Cells w' K A n xs := by
  refine ⟨h.1, fun h0 => ?_⟩
  obtain ⟨ad, e, hc⟩ := h.2 h0
  refine ⟨ad, e, fun j u hu => ?_⟩
  have h1 := hc j u hu
  have hlt := cell_lt h1
  rw [World.cell?_of_block (w := w) (w' := w') (hg.block _ hlt (by rw [add_block]; intro e2; injection e2 with e3; exact hA ad e h0 e3))]
  exact h1
theorem and255 (y : Int) : 0 ≤ wrap64 (bits .and .u64 y 255) ∧ wrap64 (bits .and .u64 y 255) ≤ 255 := by
  have h : 0 ≤ bits .and .u64 y 255 ∧ bits .and .u64 y 255 ≤ 255 := by
    have h1 : (BitVec.ofInt 64 y &&& BitVec.ofInt 64 255).toNat ≤ 255 := by
      rw [BitVec.toNat_and]
      exact Nat.le_trans Nat.and_le_right (by decide)
    show 0 ≤ IntKind.u64.wrap ((BitVec.ofInt 64 y &&& BitVec.ofInt 64 255).toNat : Int) ∧ IntKind.u64.wrap ((BitVec.ofInt 64 y &&& BitVec.ofInt 64 255).toNat : Int) ≤ 255
    rw [IntKind.wrap_u64]
    omega
  rw [IntWalk.wrap64_in _ ⟨by omega, by omega⟩]
  exact h

set_option maxHeartbeats 1000000 in
theorem step_any (code : List Int) (hb : ∀ z ∈ code, 0 ≤ z ∧ z ≤ 255) (hn : code.length ≤ 9223372036854775807) (k : Nat) (seed : Int) (hm : k < 4611686018427387904) : ∃ x s, Step code k seed x s := by
  by_cases hlt : k < code.length
  · obtain ⟨z, hzz⟩ : ∃ z, code[k]? = some z := ⟨code[k], List.getElem?_eq_getElem hlt⟩
    have hz := hb z (List.mem_of_getElem? hzz)
    refine ⟨z, IntKind.u64.wrap (IntKind.u64.wrap (IntKind.u64.wrap (seed * 6364136223846793005) + z) + 381907), ⟨?h0, ?h1⟩, fun w b g A c h => ?walk⟩
    case walk =>
      obtain ⟨hbg, hb, hcs, hA⟩ := h
      obtain ⟨ad, rfl, hc⟩ := hcs.2 (by unfold u8s; rw [List.length_map]; omega)
      have hcell := hc k _ (by unfold u8s; rw [List.getElem?_map, hzz]; rfl)
      obtain ⟨c0, c1, c2, hf⟩ := cells3 hb
      have f1 := hf 1
      have f2 := hf 2
      have HB := Lib.hid hb
      have HK := Lib.hid hcs
      have b1 : 0 ≤ (k : Int) := by omega
      have b2 : (k : Int) < code.length := by omega
      clear hb hf hc hcs
      have HA := Lib.hid hA
      clear hA
      go_enter Tryd.func54, Tryd.ntmps54
      go_wp2_with fail
      go_quiet (fail)
      go_wp2_with fail
      go_quiet (fail)
      go_wp2_with fail
      generalize hW2 : (World.setCell (World.setCell (World.drewN w _) ⟨g, 1, none⟩ _) ⟨g, 2, none⟩ _) = W2
      obtain ⟨hb2, hg2⟩ := stored HB.out hW2
      obtain ⟨d0, d1, d2, df⟩ := cells3 hb2
      have HB2 := Lib.hid hb2
      have HG2 := Lib.hid hg2
      clear hb2 hg2 df hW2 HB c0 c1 c2 f1 f2
      go_quiet (fail)
      go_wp2_with fail
      go_ret
      exact ⟨rfl, ⟨hbg, by rw [show ((k + 1 : Nat) : Int) = (k : Int) + 1 by omega]; exact HB2.out, cells_kept HK.out (grown_drewN HG2.out _) (fun a e h0 e2 => by have := HA.out a e (by unfold u8s at h0; rwa [List.length_map] at h0); omega), HA.out⟩, grown_drewN HG2.out _⟩
    case h0 => exact hz.1
    case h1 => exact hz.2
  · refine ⟨wrap64 (bits .and .u64 (IntKind.u64.wrap (IntKind.u64.wrap (IntKind.u64.wrap (seed * 6364136223846793005)) + 381907) / 1099511627776) 255), IntKind.u64.wrap (IntKind.u64.wrap (IntKind.u64.wrap (seed * 6364136223846793005)) + 381907), ⟨?h0, ?h1⟩, fun w b g A c h => ?walk⟩
    case walk =>
      obtain ⟨hbg, hb, hcs, hA⟩ := h
      obtain ⟨c0, c1, c2, hf⟩ := cells3 hb
      have f1 := hf 1
      have f2 := hf 2
      have HB := Lib.hid hb
      have HK := Lib.hid hcs
      have HA := Lib.hid hA
      have b2 : (code.length : Int) ≤ k := by omega
      have b3 : ¬ ((k : Int) + 1 ≤ code.length) := by omega
      clear hb hf hcs hA
      go_enter Tryd.func54, Tryd.ntmps54
      go_wp2_with fail
      go_quiet (fail)
      go_wp2_with fail
      generalize hW2 : (World.setCell (World.setCell (World.drewN w _) ⟨g, 1, none⟩ _) ⟨g, 2, none⟩ _) = W2
      obtain ⟨hb2, hg2⟩ := stored HB.out hW2
      obtain ⟨d0, d1, d2, df⟩ := cells3 hb2
      have HB2 := Lib.hid hb2
      have HG2 := Lib.hid hg2
      clear hb2 hg2 df hW2 HB c0 c1 c2 f1 f2
      go_quiet (fail)
      go_wp2_with fail
      go_ret
      exact ⟨rfl, ⟨hbg, by rw [show ((k + 1 : Nat) : Int) = (k : Int) + 1 by omega]; exact HB2.out, cells_kept HK.out (grown_drewN HG2.out _) (fun a e h0 e2 => by have := HA.out a e (by unfold u8s at h0; rwa [List.length_map] at h0); omega), HA.out⟩, grown_drewN HG2.out _⟩
    case h0 => exact (and255 _).1
    case h1 => exact (and255 _).2
/-- a tape for each row of bytes -/
def Tells (tapes : List Int → Tape) : Prop := (∀ code, (tapes code).left = 4611686018427387904) ∧ (∀ code i, 0 ≤ (tapes code).vals i ∧ (tapes code).vals i ≤ 255) ∧
  ∀ code, (∀ z ∈ code, 0 ≤ z ∧ z ≤ 255) → code.length ≤ 9223372036854775807 → Emits code 0 0 (tapes code)
theorem tells_one (code : List Int) : ∃ t : Tape, t.left = 4611686018427387904 ∧ (∀ i, 0 ≤ t.vals i ∧ t.vals i ≤ 255) ∧ ((∀ z ∈ code, 0 ≤ z ∧ z ≤ 255) → code.length ≤ 9223372036854775807 → Emits code 0 0 t) := by
  by_cases hc : (∀ z ∈ code, 0 ≤ z ∧ z ≤ 255) ∧ code.length ≤ 9223372036854775807
  · have hs : ∀ (k : Nat) (seed : Int), ∃ p : Int × Int, (0 ≤ p.1 ∧ p.1 ≤ 255) ∧ (k < 4611686018427387904 → Step code k seed p.1 p.2) := by
      intro k seed
      by_cases hk : k < 4611686018427387904
      · obtain ⟨x, s, h⟩ := step_any code hc.1 hc.2 k seed hk
        exact ⟨(x, s), h.1, fun _ => h⟩
      · exact ⟨(0, 0), by omega, fun h => absurd h hk⟩
    have ⟨f, hf⟩ : ∃ f : Nat → Int → Int × Int, ∀ k seed, (0 ≤ (f k seed).1 ∧ (f k seed).1 ≤ 255) ∧ (k < 4611686018427387904 → Step code k seed (f k seed).1 (f k seed).2) :=
      ⟨fun k seed => Classical.choose (hs k seed), fun k seed => Classical.choose_spec (hs k seed)⟩
    obtain ⟨seeds, h0, h1⟩ : ∃ seeds : Nat → Int, seeds 0 = 0 ∧ ∀ i, seeds (i + 1) = (f i (seeds i)).2 := ⟨fun n => Nat.rec 0 (fun i s => (f i s).2) n, rfl, fun i => rfl⟩
    refine ⟨⟨fun i => (f i (seeds i)).1, 4611686018427387904⟩, rfl, fun i => (hf i (seeds i)).1, fun _ _ => ⟨by show 0 + 4611686018427387904 ≤ 4611686018427387904; omega, seeds, h0, fun i hi => ?_⟩⟩
    have := (hf i (seeds i)).2 hi
    rw [h1, Nat.zero_add]
    exact this
  · exact ⟨⟨fun _ => 0, 4611686018427387904⟩, rfl, fun _ => ⟨Int.le_refl 0, (by decide : (0 : Int) ≤ 255)⟩, fun h1 h2 => absurd ⟨h1, h2⟩ hc⟩
theorem tells : ∃ tapes, Tells tapes := by
  have ⟨f, hf⟩ : ∃ f : List Int → Tape, ∀ code, (f code).left = 4611686018427387904 ∧ (∀ i, 0 ≤ (f code).vals i ∧ (f code).vals i ≤ 255) ∧ ((∀ z ∈ code, 0 ≤ z ∧ z ≤ 255) → code.length ≤ 9223372036854775807 → Emits code 0 0 (f code)) :=
    ⟨fun code => Classical.choose (tells_one code), fun code => Classical.choose_spec (tells_one code)⟩
  exact ⟨f, fun code => (hf code).1, fun code => (hf code).2.1, fun code => (hf code).2.2⟩

theorem cur_lt {w : World} {b g c : Nat} {A : Option Addr} {t : Tape} (h : CurIs w b g A c t) : b ≤ g ∧ g < w.heap.size := by
  obtain ⟨code, k, seed, ⟨h1, h2, _⟩, _⟩ := h
  refine ⟨h1, ?_⟩
  rcases Nat.lt_or_ge g w.heap.size with hl | hl
  · exact hl
  · rw [Array.getElem?_eq_none hl] at h2; cases h2
theorem cells_lt {w : World} {K n : Nat} {a : Addr} {xs : List Value} (h : Cells w K (some a) n xs) (h0 : 0 < xs.length) : a.block < w.heap.size := by
  obtain ⟨ad, e, hc⟩ := h.2 h0
  obtain rfl := Option.some.inj e
  have := cell_lt (hc 0 xs[0] (List.getElem?_eq_getElem h0))
  rwa [add_block] at this
theorem cur_below {w w' : World} {b g c : Nat} {A : Option Addr} {t : Tape} (h : CurIs w b g A c t) (hb : Below w.heap.size w w') : CurIs w' b g A c t := by
  have hl := cur_lt h
  obtain ⟨code, k, seed, ⟨h1, h2, h3, h4⟩, hE⟩ := h
  exact ⟨code, k, seed, ⟨h1, by rw [hb.block g hl.2]; exact h2, Cells.below h3 hb, h4⟩, hE⟩
/-- another row is written, one that is younger than the bytes -/
theorem cur_other {w w' : World} {b g c n' c' : Nat} {A A' : Option Addr} {t : Tape} (h : CurIs w b g A c t) (hg : w.grownBy w' (Value.slice A' n' c').ownBlock) (hD : Apart A' (some ⟨g, 0, none⟩)) (ho : ∀ a, A' = some a → b ≤ a.block) : CurIs w' b g A c t := by
  have hl := cur_lt h
  obtain ⟨code, k, seed, ⟨h1, h2, h3, h4⟩, hE⟩ := h
  refine ⟨code, k, seed, ⟨h1, ?_, ?_, h4⟩, hE⟩
  · rw [hg.block g hl.2 ?_]
    · exact h2
    · cases A' with
      | none => simp [Value.ownBlock]
      | some x => simp only [Value.ownBlock, ne_eq, Option.some.injEq]; exact fun e => hD x _ rfl rfl e.symm
  · refine ⟨h3.1, fun h0 => ?_⟩
    obtain ⟨ad, e, hc⟩ := h3.2 h0
    refine ⟨ad, e, fun j u hu => ?_⟩
    have h5 := hc j u hu
    have hlt := cell_lt h5
    rw [World.cell?_of_block (w := w) (w' := w') (hg.block _ hlt ?_)]
    · exact h5
    · rw [add_block]
      cases A' with
      | none => simp [Value.ownBlock]
      | some x =>
        simp only [Value.ownBlock, ne_eq, Option.some.injEq]
        intro e2
        have := ho x rfl
        have := h4 ad e (by unfold u8s at h0; rwa [List.length_map] at h0)
        omega
/-- a cursor that is laid now -/
theorem cur_new {w : World} {b c : Nat} {A : Option Addr} {code : List Int} {t : Tape} (hb : b ≤ w.heap.size) (hc : Cells w 1 A code.length (u8s code)) (hA : ∀ a, A = some a → 0 < code.length → a.block < b) (hE : Emits code 0 0 t) :
    CurIs (w.alloc (.cells #[.slice A code.length c, .int .i64 0, .int .u64 0] 46)) b w.heap.size A c t :=
  ⟨code, 0, 0, ⟨hb, heap_alloc_new w _, Cells.below hc ((Below.refl _ _).alloc (Nat.le_refl _) _), hA⟩, hE⟩
theorem grown_new {w wr w2 : World} {r : Option Nat} {n c : Nat} {A : Option Addr} (h : w.grownBy wr r) (hg : wr.grownBy w2 (Value.slice A n c).ownBlock) (ho : ∀ a, A = some a → w.heap.size ≤ a.block) : w.grownBy w2 r :=
  ⟨hg.os.trans h.os, hg.tape.trans h.tape, hg.output.trans h.output, Nat.le_trans h.size hg.size, fun i hi hr => (hg.block i (Nat.lt_of_lt_of_le hi h.size) (by
    cases A with
    | none => simp [Value.ownBlock]
    | some x => simp only [Value.ownBlock, ne_eq, Option.some.injEq]; intro e; have := ho x rfl; omega)).trans (h.block i hi hr)⟩
theorem own_ge {w : World} {b T K n m c : Nat} {A : Option Addr} {xs : List Value} (h : w.ownsRow b T K (.slice A m c) n xs) : ∀ a, A = some a → b ≤ a.block := fun a e => (own_lt h a e).1
theorem cur_otherO {w w' : World} {b g c n' c' base T K n : Nat} {A A' : Option Addr} {t : Tape} {xs : List Value} (h : CurIs w b g A c t) (hg : w.grownBy w' (Value.slice A' n' c').ownBlock) (hD : Apart A' (some ⟨g, 0, none⟩)) (hb : b ≤ base) (ho : w.ownsRow base T K (.slice A' n' c') n xs) : CurIs w' b g A c t :=
  cur_other h hg hD (fun a e => Nat.le_trans hb (own_ge ho a e))
theorem u8_at {w : World} {A : Option Addr} {n k : Nat} {l : List Int} (h : Cells w 1 A n (u8s l)) (hk : k < n) : ∃ (b o : Nat) (x : Int), A = some ⟨b, o, none⟩ ∧ l[k]? = some x ∧ w.cell? ⟨b, o + k, none⟩ = some (.int .u8 x) := by
  have hl : k < l.length := by have := h.1; unfold u8s at this; rw [List.length_map] at this; omega
  obtain ⟨⟨b, o, sp⟩, e, hc⟩ := h.2 (by unfold u8s; rw [List.length_map]; omega)
  have h0 := hc 0 (.int .u8 l[0]) (by unfold u8s; rw [List.getElem?_map, List.getElem?_eq_getElem (show 0 < l.length by omega)]; rfl)
  obtain rfl : sp = none := cell_spot (b := b) (o := o) h0
  have hs := List.getElem?_eq_getElem hl
  have := hc k (.int .u8 l[k]) (by unfold u8s; rw [List.getElem?_map, hs]; rfl)
  rw [add_flat] at this
  exact ⟨b, o, l[k], e, hs, this⟩
theorem apart_cur {w : World} {b g c : Nat} {A : Option Addr} {t : Tape} (h : CurIs w b g A c t) : Apart (some ⟨w.heap.size, 0, none⟩) (some ⟨g, 0, none⟩) := by
  intro a a' ha ha' e
  have := (cur_lt h).2
  injection ha with ha
  injection ha' with ha'
  subst ha
  subst ha'
  simp at e
  omega
theorem apart_callcur {w w1 : World} {T K n m c b g c' : Nat} {A A' : Option Addr} {xs : List Value} {t : Tape} (h1 : w1.ownsRow w.heap.size T K (.slice A m c) n xs) (h : CurIs w b g A' c' t) : Apart A (some ⟨g, 0, none⟩) := by
  intro a a' ha ha' e
  have := (cur_lt h).2
  have := (own_lt h1 a ha).1
  injection ha' with ha'
  subst ha'
  simp at e
  omega
theorem apart_x {n g bb oo : Nat} (h : 0 < n → Apart (some ⟨bb, oo, none⟩) (some ⟨g, 0, none⟩)) (h0 : 0 < n) : Apart (some ⟨g, 0, none⟩) (some ⟨bb, 0, none⟩) := by
  intro a a' ha ha' e
  injection ha with ha
  injection ha' with ha'
  subst ha
  subst ha'
  exact h h0 ⟨bb, oo, none⟩ ⟨g, 0, none⟩ rfl rfl e.symm
theorem apart_curold {w : World} {b g c bb : Nat} {A : Option Addr} {t : Tape} (h : CurIs w b g A c t) (hl : bb < b) : Apart (some ⟨g, 0, none⟩) (some ⟨bb, 0, none⟩) := by
  intro a a' ha ha' e
  have := (cur_lt h).1
  injection ha with ha
  injection ha' with ha'
  subst ha
  subst ha'
  simp at e
  omega
theorem cells_io {w w' : World} {K n m g : Nat} {A : Option Addr} {xs : List Value} (h : Cells w K A n xs) (hg : w.grownBy w' (Value.slice (some ⟨g, 0, none⟩) 1 1).ownBlock) (hX : 0 < m → Apart A (some ⟨g, 0, none⟩)) (hm : 0 < xs.length → 0 < m := by intro h; first | exact h | (simp only [List.length_map] at h; exact h)) : Cells w' K A n xs :=
  cells_kept h hg (fun a e h0 e2 => hX (hm h0) a ⟨g, 0, none⟩ e rfl e2)
theorem below_cur {w wr w2 : World} {B g : Nat} (h : Below B w wr) (hg : wr.grownBy w2 (Value.slice (some ⟨g, 0, none⟩) 1 1).ownBlock) (hB : B ≤ wr.heap.size) (hk : B ≤ g) : Below B w w2 :=
  h.grown hg hB (fun q hq => by have hq' : some g = some q := hq; injection hq' with e; omega)
/-- next -/
def P (t : Tape) : Option (Int × Tape) := if 0 < t.left then some (t.vals 0, t.tail) else none
theorem C (t : Tape) (w : World) (b g : Nat) (A : Option Addr) (c : Nat) (K : Hid (CurIs w b g A c t)) {r : Int} {t' : Tape} (H : Hid (P t = some (r, t'))) :
    Calls Tryd.prog 54 #[.pointer (some ⟨g, 0, none⟩)] w (fun e w' => e = .returned (.int .i64 r) ∧ CurIs w' b g A c t' ∧ w.grownBy w' (some g)) := by
  have h : P t = some (r, t') := H
  obtain ⟨code, k, seed, hA, hl, seeds, h0, hs⟩ := K.out
  unfold P at h
  by_cases hk : 0 < t.left
  · rw [if_pos hk] at h
    simp only [Option.some.injEq, Prod.mk.injEq] at h
    obtain ⟨rfl, rfl⟩ := h
    have h1 := hs 0 hk
    rw [h0] at h1
    refine (h1.2 w b g A c hA).mono ?_
    rintro e w' ⟨rfl, a1, a2⟩
    refine ⟨rfl, ⟨code, k + 1, seeds 1, a1, by show k + 1 + (t.left - 1) ≤ _; omega, fun i => seeds (i + 1), rfl, fun i hi => ?_⟩, a2⟩
    have h2 := hs (i + 1) (by have : i < t.left - 1 := hi; omega)
    rw [show k + 1 + i = k + (i + 1) by omega]
    exact h2
  · rw [if_neg hk] at h; simp at h
end Go.Proofs.YtlljmgphgmklcaaDoor.GoC

/- How a struct of one-cell fields that comes in as data is opened, whatever the number of its fields; lists by their members. No condition. -/
namespace Go.Proofs.YtlljmgphgmklcaaDoor.OpenAny
set_option linter.unusedVariables false
open Go.Joins Go.ChangeShapes Go.WideShapes Go.RowKit Go.Deep

theorem add_none (b o n : Nat) : (⟨b, o, none⟩ : Addr).add n = ⟨b, o + n, none⟩ := by
  unfold Addr.add; split
  · rename_i h; subst h; rfl
  · rfl
section
variable {H : Type} {enc : TypeId × Value → H} {P : Program} {w : World} {base : Nat} {spare : Nat → Bool} {held : Bool}
/-- each field reads on its own -/
theorem read_fields {t : TypeId} {fs : Array Field} {fuel : Nat} {cs : List Value} {x : DataW H × List MemPlace} (hs : P.underlying t = some (.struct fs)) (hone : oneCellFields P fs = true) (hC : P.cellsOf t = fs.size)
    (h : DataW.trod enc P w base spare held fuel t cs = some x) :
    cs.length = P.cellsOf t ∧ ∀ (j : Nat) (f : Field), fs[j]? = some f → ∃ (u : Value) (n : Nat) (y : DataW H × List MemPlace), cs[j]? = some u ∧ DataW.trod enc P w base spare held n f.type [u] = some y := by
  obtain ⟨xs, n, _, _, hlen, hxl, hg⟩ := DataW.trod_struct hs h
  refine ⟨hlen, fun j f hj => ?_⟩
  obtain ⟨ho, hk⟩ := hone_of hone j f hj
  have hjl : j < fs.size := (Array.getElem?_eq_some_iff.1 hj).1
  have h1 := hg j f hj
  rw [ho, hk, List.getElem?_eq_getElem (by omega : j < xs.length)] at h1
  have hc : j < cs.length := by omega
  rw [List.drop_eq_getElem_cons hc] at h1
  exact ⟨cs[j], n, _, List.getElem?_eq_getElem hc, h1⟩
/-- an aggregate that comes in reads as its cells do -/
theorem agg_any {r : Reach} {b0 : Nat} {t : TypeId} {fs : Array Field} {v : Value} {d : DataW H} {p : List MemPlace} (hs : P.underlying t = some (.struct fs)) (hv : Value.okWide P w r b0 t v) (h : DataW.Trod enc P w base spare held t v d p) :
    ∃ (cs : Array Value) (n : Nat) (x : DataW H × List MemPlace), v = .agg cs ∧ DataW.trod enc P w base spare held n t cs.toList = some x := by
  obtain ⟨cs, rfl, _⟩ := okWide_struct hs hv
  obtain ⟨fuel, hf⟩ := h
  exact ⟨cs, fuel, _, rfl, hf⟩
end
/-- a list by its members -/
theorem list_of {α : Type} (p : Nat → α → Prop) : ∀ (n : Nat), (∀ k, k < n → ∃ a, p k a) → ∃ l : List α, l.length = n ∧ ∀ k a, l[k]? = some a → p k a
  | 0, _ => ⟨[], rfl, fun k a h => by simp at h⟩
  | n + 1, h => by
    obtain ⟨l, hl, hp⟩ := list_of p n (fun k hk => h k (by omega))
    obtain ⟨a, ha⟩ := h n (by omega)
    refine ⟨l ++ [a], by simp [hl], fun k b hb => ?_⟩
    by_cases hk : k < n
    · rw [List.getElem?_append_left (by omega)] at hb; exact hp k b hb
    · have hk' : k < (l ++ [a]).length := (List.getElem?_eq_some_iff.1 hb).1
      simp [hl] at hk'
      obtain rfl : k = n := by omega
      rw [List.getElem?_append_right (by omega), hl, Nat.sub_self] at hb
      obtain rfl : a = b := by simpa using hb
      exact ha
end Go.Proofs.YtlljmgphgmklcaaDoor.OpenAny

/- An array of 3 numbers in a row of them. No condition. -/
namespace Go.Proofs.YtlljmgphgmklcaaDoor.OIntA3
set_option linter.unusedVariables false
set_option maxRecDepth 100000
open Go.Joins Go.ChangeShapes Go.WideShapes Go.RowKit Go.Deep
open Go.Proofs.YtlljmgphgmklcaaDoor.Rowed Go.Proofs.YtlljmgphgmklcaaDoor.OpenAny Go.Proofs.YtlljmgphgmklcaaDoor.PIntA3
theorem at_ {w : World} {A : Option Addr} {n k : Nat} {l : List IntA3} (h : Cells w 3 A n (flat l)) (hk : k < n) :
    ∃ (b o : Nat) (s : IntA3), A = some ⟨b, o, none⟩ ∧ l[k]? = some s ∧ w.cell? ⟨b, o + k * 3, none⟩ = some (.int .i64 s.x0) ∧ w.cell? ⟨b, o + k * 3 + 1, none⟩ = some (.int .i64 s.x1) ∧ w.cell? ⟨b, o + k * 3 + 2, none⟩ = some (.int .i64 s.x2) := by
  have hl : k < l.length := by have := h.1; rw [flat_len] at this; omega
  obtain ⟨⟨b, o, sp⟩, e, hc⟩ := h.2 (by rw [flat_len]; omega)
  have h0 := hc 0 _ (flat_at l 0 l[0] (List.getElem?_eq_getElem (by omega)) 0 (by omega))
  obtain rfl : sp = none := cell_spot (b := b) (o := o) h0
  have hs := List.getElem?_eq_getElem hl
  have f := flat_at l k _ hs
  have g := fun j u hu => add_none b o j ▸ hc j u hu
  exact ⟨b, o, l[k], e, hs, g _ _ (f 0 (by omega)), g _ _ (f 1 (by omega)), g _ _ (f 2 (by omega))⟩
end Go.Proofs.YtlljmgphgmklcaaDoor.OIntA3

/- loop.example/g01062/laws.vBig as a plain function, and the contract of the program's: where the plain one has an answer, the program has it. Conditions: slices read as lists. -/
namespace Go.Proofs.YtlljmgphgmklcaaDoor.GlVBig
set_option linter.unusedVariables false
set_option linter.unusedSimpArgs false
open Go.RowKit
open Go.Proofs.YtlljmgphgmklcaaDoor.Rowed Go.Proofs.YtlljmgphgmklcaaDoor.Turn Go.Proofs.YtlljmgphgmklcaaDoor.Aid Go.Proofs.YtlljmgphgmklcaaDoor.GoP Go.Proofs.YtlljmgphgmklcaaDoor.GoM

def P (code : (List Int)) : Option (Bool) :=
  letK (decide (65536 < (code.length : Int))) fun (t_3 : Bool) =>
  some t_3

set_option maxRecDepth 100000 in
set_option maxHeartbeats 2000000 in
theorem C (code : (List Int)) (A0 : Option Addr) (c0 : Nat)  (w : World) (M0 : Hid (Cells w 1 A0 code.length (Go.Proofs.YtlljmgphgmklcaaDoor.GoC.u8s code))) (N0 : Hid (code.length ≤ 9223372036854775807)) (V0 : Hid (∀ z ∈ code, 0 ≤ z ∧ z ≤ 255))  {r : Bool} (H : Hid (P code = some r)) :
    Calls Tryd.prog 4 #[.slice A0 code.length c0] w (Gives (.bool r) w) := by
  have HB := Lib.hid (Below.refl w.heap.size w)
  unfold P at H
  have N0o := N0.out
  go_enter Tryd.func4, Tryd.ntmps4
  replace H := let_hid H
  obtain ⟨t_3, ht_3, H⟩ := H
  obtain rfl := ret_hid H
  go_wp2_with fail
  go_ret
  exact ⟨rfl, HB.out⟩

set_option maxRecDepth 100000 in
set_option maxHeartbeats 2000000 in
theorem C0 (code : (List Int)) (A0 : Option Addr) (c0 : Nat)  (w : World) (M0 : Hid (Cells w 1 A0 code.length (Go.Proofs.YtlljmgphgmklcaaDoor.GoC.u8s code))) (N0 : Hid (code.length ≤ 9223372036854775807)) (V0 : Hid (∀ z ∈ code, 0 ≤ z ∧ z ≤ 255))  {r : Bool} (H : Hid (P code = some r)) :
    Calls Tryd.prog 4 #[.slice A0 code.length c0] w (fun e w'' => e = .returned (.bool r) ∧ w'' = w) := by
  have HB := Lib.hid (Below.refl w.heap.size w)
  unfold P at H
  have N0o := N0.out
  go_enter Tryd.func4, Tryd.ntmps4
  replace H := let_hid H
  obtain ⟨t_3, ht_3, H⟩ := H
  obtain rfl := ret_hid H
  go_wp2_with fail
  go_ret
  exact ⟨rfl, rfl⟩
end Go.Proofs.YtlljmgphgmklcaaDoor.GlVBig

/- The contracts of the laws' helpers on slices of ints: toIntS, eqIntS, markIntS, heldIntS. Condition: the slice reads as a list of ints. -/
namespace Go.Proofs.YtlljmgphgmklcaaDoor.HelpInt
set_option linter.unusedVariables false
open Go.RowKit
open Go.Proofs.YtlljmgphgmklcaaDoor.Rowed

/-- ints as values -/
def iv (l : List Int) : List Value := l.map (Value.int .i64)
theorem iv_len (l : List Int) : (iv l).length = l.length := by simp [iv]
theorem iv_at (l : List Int) (k : Nat) : (iv l)[k]? = (l[k]?).map (Value.int .i64) := by simp [iv]
theorem iv_snoc (l : List Int) (x : Int) : iv (l ++ [x]) = iv l ++ [.int .i64 x] := by simp [iv]
/-- the slice 'A, n' reads as the ints l -/
abbrev Ints (w : World) (A : Option Addr) (n : Nat) (l : List Int) : Prop := Cells w 1 A n (iv l)
theorem add_none (b o n : Nat) : (⟨b, o, none⟩ : Addr).add n = ⟨b, o + n, none⟩ := by
  unfold Addr.add; split
  · rename_i h; subst h; rfl
  · rfl
theorem Ints.at_ {w : World} {A : Option Addr} {n k : Nat} {l : List Int} (h : Ints w A n l) (hk : k < n) : ∃ (b o : Nat) (x : Int), A = some ⟨b, o, none⟩ ∧ l[k]? = some x ∧ w.cell? ⟨b, o + k, none⟩ = some (.int .i64 x) := by
  have hl : k < l.length := by have := h.1; rw [iv_len] at this; omega
  obtain ⟨⟨b, o, sp⟩, e, hc⟩ := h.2 (by rw [iv_len]; omega)
  have h0 := hc 0 _ (by rw [iv_at, List.getElem?_eq_getElem (show 0 < l.length by omega)]; rfl)
  obtain rfl : sp = none := cell_spot (b := b) (o := o) h0
  have hs := List.getElem?_eq_getElem hl
  have := hc k (.int .i64 l[k]) (by rw [iv_at, hs]; rfl)
  rw [add_none] at this
  exact ⟨b, o, l[k], e, hs, this⟩








end Go.Proofs.YtlljmgphgmklcaaDoor.HelpInt

/- An append onto a row of its own as one step of a region that draws its order. No condition. -/
namespace Go.Proofs.YtlljmgphgmklcaaDoor.GoH
set_option linter.unusedVariables false
theorem step_append_own {P : Program} {w : World} {ops : Array Oper} {o : Oper} {a : Act} {K : Act → World → Prop} {Q : Exit → Act → World → Prop} {E : Prop} (hgd : o.guard = none) (s x : Operand) (t : TypeId)
    (ho : o.op = .call { callee := .builtin .append, args := #[s, x], argTypes := #[t, t] })
    (base : Nat) (e : TypeId) (i : TypeInfo) (z : Value) (size bytes : Nat) (ht : P.underlying t = some (.slice e)) (hi : P.info? e = some i) (hz : i.zero = some z)
    (hsize : i.size = size) (hby : i.bytes = bytes) (hzs : z.cells.size = size) (hsz : 0 < size)
    (A : Option Addr) (c n : Nat) (xs : List Value) (hs : a.eval s = .slice A n c) (hown : w.ownsRow base e size (.slice A n c) n xs)
    (ad : Addr) (cc : Nat) (news : List Value) (hx : a.eval x = .slice (some ad) 1 cc) (hl : news.length = 1 * size) (hnews : ∀ j u, news[j]? = some u → w.cell? (ad.add j) = some u) (h1 : ∀ u ∈ news, u.oneCell' = true)
    (h63 : n + 1 ≤ maxLen) (hbytes : (n + 1) * bytes ≤ 140737488355328) (hbase : base ≤ w.heap.size)
    (h : ∀ v' w', w'.ownsRow base e size v' (n + 1) (xs ++ news) → w.grownBy w' (Value.slice A n c).ownBlock → (v'.ownBlock = (Value.slice A n c).ownBlock ∨ v'.ownBlock = some w.heap.size) → K (a.put o.dst v') w') :
    if Region.wanted o (yielded ops a.tmps) = true then Oper.wp P o a w K Q else E := by
  refine Go.step_append_lies w hgd s x t ho base e i z size bytes ht hi hz hsize hby hzs hsz (.slice A n c) n xs hs hown ad 1 cc news hx hl hnews h1 (by omega) h63 hbytes hbase w.heap.size rfl ?_
  intro g cap w' o1 g1 y1 _
  refine h _ w' o1 g1 ?_
  rcases y1 with y1 | y1
  · left; rw [y1]; rfl
  · right; rw [y1]; rfl
/-- append(a, b...) onto a row of its own as one step of such a region -/
theorem step_spread_own {P : Program} {w : World} {ops : Array Oper} {o : Oper} {a : Act} {K : Act → World → Prop} {Q : Exit → Act → World → Prop} {E : Prop} (hgd : o.guard = none) (s x : Operand) (t : TypeId)
    (ho : o.op = .call { callee := .builtin .append, args := #[s, x], argTypes := #[t, t] })
    (base : Nat) (e : TypeId) (i : TypeInfo) (z : Value) (size bytes : Nat) (ht : P.underlying t = some (.slice e)) (hi : P.info? e = some i) (hz : i.zero = some z)
    (hsize : i.size = size) (hby : i.bytes = bytes) (hzs : z.cells.size = size) (hsz : 0 < size)
    (A1 : Option Addr) (c1 n : Nat) (xs : List Value) (hs : a.eval s = .slice A1 n c1) (hown : w.ownsRow base e size (.slice A1 n c1) n xs)
    (A : Option Addr) (m c : Nat) (news : List Value) (hx : a.eval x = .slice A m c) (hN : Go.Proofs.YtlljmgphgmklcaaDoor.GoM.Room A m c) (hc : Go.Proofs.YtlljmgphgmklcaaDoor.Rowed.Cells w size A m news) (h1 : ∀ u ∈ news, u.oneCell' = true)
    (h63 : n + m ≤ maxLen) (hbytes : (n + m) * bytes ≤ 140737488355328) (hbase : base ≤ w.heap.size)
    (h : ∀ v' w', w'.ownsRow base e size v' (n + m) (xs ++ news) → w.grownBy w' (Value.slice A1 n c1).ownBlock → (v'.ownBlock = (Value.slice A1 n c1).ownBlock ∨ v'.ownBlock = some w.heap.size) → K (a.put o.dst v') w') :
    if Region.wanted o (yielded ops a.tmps) = true then Oper.wp P o a w K Q else E := by
  have hw : Region.wanted o (yielded ops a.tmps) = true := by simp [Region.wanted, hgd]
  rw [if_pos hw]
  obtain ⟨v', w', hr, h2, h3, h5⟩ : ∃ v' w', (Builtin.append_ #[t, t] o.type #[.slice A1 n c1, .slice A m c]).run P w = .ok v' w' ∧ w'.ownsRow base e size v' (n + m) (xs ++ news) ∧ w.grownBy w' (Value.slice A1 n c1).ownBlock ∧ (v'.ownBlock = (Value.slice A1 n c1).ownBlock ∨ v'.ownBlock = some w.heap.size) := by
    cases A with
    | some ad =>
      obtain ⟨v', w', hr, h2, h3, _, h5⟩ := run_append_own_at (P := P) w base t o.type e i z size bytes ht hi hz hsize hby hzs hsz (.slice A1 n c1) n xs hown ad m c news hc.1 (fun j u hu => by
        obtain ⟨ad', e', hcell⟩ := hc.2 (by have := (List.getElem?_eq_some_iff.1 hu).1; omega)
        obtain rfl : ad = ad' := Option.some.inj e'
        exact hcell j u hu) h1 h63 hbytes hbase
      exact ⟨v', w', hr, h2, h3, h5⟩
    | none =>
      have hm : m = 0 := by
        cases news with
        | nil =>
          have h0 : ([] : List Value).length = m * size := hc.1
          rw [List.length_nil] at h0
          rcases Nat.mul_eq_zero.1 h0.symm with h1 | h1 <;> omega
        | cons y l => obtain ⟨ad, e', _⟩ := hc.2 (by simp); simp at e'
      obtain rfl : c = 0 := hN.2 rfl
      subst hm
      have hn : news = [] := List.eq_nil_of_length_eq_zero (by have := hc.1; simpa using this)
      subst hn
      exact ⟨_, w, run_append_owned_none (P := P) w base t o.type e i size ht hi (.slice A1 n c1) n xs hown, by simpa using hown, World.grownBy.refl w _, .inl rfl⟩
  unfold Oper.wp execOp
  simp only [ho, resolve, invoke, builtin, Sem.run_bind, Sem.run_pure, Result.andThen_ok, List.map_toArray, List.map_cons, List.map_nil, hs, hx, hr]
  exact h v' w' h2 h3 h5
end Go.Proofs.YtlljmgphgmklcaaDoor.GoH

/- What is held of the worlds of a region that draws its order may grow on the way. No condition. -/
namespace Go.Proofs.YtlljmgphgmklcaaDoor.GoR
set_option linter.unusedVariables false
theorem wpAnyH_more {P : Program} {ops : Array Oper} {Q : Exit → Act → World → Prop} {md : Region.Mode} {S S' : World → Prop} (h : ∀ w, S' w → S w) : ∀ (fuel : Nat) (listed : Array Bool) (a : Act) (w : World), wpAnyH P md ops Q S' fuel listed a w → wpAnyH P md ops Q S fuel listed a w
  | 0, _, _, _, H => H
  | fuel + 1, _, _, _, H => ⟨H.1, fun i hi => wpOp_mono (fun a' w' h' => ⟨h _ h'.1, wpAnyH_more h fuel _ a' w' h'.2⟩) (H.2 i hi)⟩
theorem flat_pos {α : Type} {f : α → List Value} {l : List α} (h : 0 < (l.flatMap f).length) : 0 < l.length := by cases l <;> simp_all
end Go.Proofs.YtlljmgphgmklcaaDoor.GoR

/- The record Rate as data that comes in, and a slice of it. No condition. -/
namespace Go.Proofs.YtlljmgphgmklcaaDoor.ORate
set_option linter.unusedVariables false
set_option maxRecDepth 100000
open Go.Joins Go.ChangeShapes Go.WideShapes Go.RowKit Go.Deep
open Go.Proofs.YtlljmgphgmklcaaDoor.Rowed Go.Proofs.YtlljmgphgmklcaaDoor.OpenAny Go.Proofs.YtlljmgphgmklcaaDoor.PRate

/-- the slice 'A, n' reads as the records l -/
abbrev Rates (w : World) (A : Option Addr) (n : Nat) (l : List Rate) : Prop := Cells w 5 A n (flat l)
theorem at_ {w : World} {A : Option Addr} {n k : Nat} {l : List Rate} (h : Rates w A n l) (hk : k < n) :
    ∃ (b o : Nat) (s : Rate), A = some ⟨b, o, none⟩ ∧ l[k]? = some s ∧ w.cell? ⟨b, o + k * 5, none⟩ = some (.int .i64 s.zone) ∧ w.cell? ⟨b, o + k * 5 + 1, none⟩ = some (.int .i64 s.grams) ∧ w.cell? ⟨b, o + k * 5 + 2, none⟩ = some (.int .i64 s.from_) ∧ w.cell? ⟨b, o + k * 5 + 3, none⟩ = some (.int .i64 s.until_) ∧ w.cell? ⟨b, o + k * 5 + 4, none⟩ = some (.int .i64 s.cents) := by
  have hl : k < l.length := by have := h.1; rw [flat_len] at this; omega
  obtain ⟨⟨b, o, sp⟩, e, hc⟩ := h.2 (by rw [flat_len]; omega)
  have h0 := hc 0 _ (flat_at l 0 l[0] (List.getElem?_eq_getElem (by omega)) 0 (by omega))
  obtain rfl : sp = none := cell_spot (b := b) (o := o) h0
  have hs := List.getElem?_eq_getElem hl
  have f := flat_at l k _ hs
  have g := fun j u hu => add_none b o j ▸ hc j u hu
  exact ⟨b, o, l[k], e, hs, g _ _ (f 0 (by omega)), g _ _ (f 1 (by omega)), g _ _ (f 2 (by omega)), g _ _ (f 3 (by omega)), g _ _ (f 4 (by omega))⟩
theorem len_of {w : World} {A : Option Addr} {n : Nat} {l : List Rate} (h : Rates w A n l) : l.length = n := by
  have := h.1
  rw [flat_len] at this; omega

/-- a slice of records that came in: the list that it reads as -/
structure Came (w : World) (A : Option Addr) (len cap : Nat) (l : List Rate) : Prop where
  cells : Rates w A len l
  small : len ≤ maxLen
  fits : ∀ s ∈ l, s.fits
theorem Came.len {w : World} {A : Option Addr} {len cap : Nat} {l : List Rate} (h : Came w A len cap l) : l.length = len := len_of h.cells

section
variable {H : Type} {enc : TypeId × Value → H} {w : World} {base : Nat} {spare : Nat → Bool} {held : Bool}
theorem read_one {n : Nat} {cs : List Value} {x : DataW H × List MemPlace} (h : DataW.trod enc Tryd.prog w base spare held n 38 cs = some x) : ∃ s : Rate, cs = s.cells ∧ s.fits := by
  have hc : Tryd.prog.cellsOf 38 = 5 := by kernel_rfl
  obtain ⟨hl, hf⟩ := read_fields Tryd.underlying38 (by kernel_rfl) hc h
  rw [hc] at hl
  match cs, hl with
  | [v0, v1, v2, v3, v4], _ =>
    obtain ⟨u0, n0, y0, eu0, t0⟩ := hf 0 _ rfl
    obtain ⟨x0, e0, _, f0⟩ := DataW.trod_int Tryd.underlying3 t0
    obtain rfl : v0 = u0 := by simpa using eu0
    obtain rfl : v0 = .int .i64 x0 := by simpa using e0
    obtain ⟨u1, n1, y1, eu1, t1⟩ := hf 1 _ rfl
    obtain ⟨x1, e1, _, f1⟩ := DataW.trod_int Tryd.underlying3 t1
    obtain rfl : v1 = u1 := by simpa using eu1
    obtain rfl : v1 = .int .i64 x1 := by simpa using e1
    obtain ⟨u2, n2, y2, eu2, t2⟩ := hf 2 _ rfl
    obtain ⟨x2, e2, _, f2⟩ := DataW.trod_int Tryd.underlying3 t2
    obtain rfl : v2 = u2 := by simpa using eu2
    obtain rfl : v2 = .int .i64 x2 := by simpa using e2
    obtain ⟨u3, n3, y3, eu3, t3⟩ := hf 3 _ rfl
    obtain ⟨x3, e3, _, f3⟩ := DataW.trod_int Tryd.underlying3 t3
    obtain rfl : v3 = u3 := by simpa using eu3
    obtain rfl : v3 = .int .i64 x3 := by simpa using e3
    obtain ⟨u4, n4, y4, eu4, t4⟩ := hf 4 _ rfl
    obtain ⟨x4, e4, _, f4⟩ := DataW.trod_int Tryd.underlying3 t4
    obtain rfl : v4 = u4 := by simpa using eu4
    obtain rfl : v4 = .int .i64 x4 := by simpa using e4
    exact ⟨⟨x0, x1, x2, x3, x4⟩, rfl, f0, f1, f2, f3, f4⟩
theorem open_one {r : Reach} {b0 : Nat} {v : Value} {d : DataW H} {p : List MemPlace} (hv : Value.okWide Tryd.prog w r b0 38 v) (h : DataW.Trod enc Tryd.prog w base spare held 38 v d p) :
    ∃ s : Rate, v = s.val ∧ s.fits := by
  obtain ⟨cs, n, x, rfl, ht⟩ := agg_any Tryd.underlying38 hv h
  obtain ⟨s, e, hs⟩ := read_one ht
  refine ⟨s, ?_, hs⟩
  obtain ⟨l⟩ := cs
  obtain rfl : l = s.cells := by simpa using e
  rfl
end
theorem open_field {H : Type} {enc : TypeId × Value → H} {W : World} {fuel : Nat} {u : Value} {y : DataW H × List MemPlace}
    (hf : DataW.trod enc Tryd.prog W 0 (fun _ => true) true fuel 24 [u] = some y) : ∃ (a : Option Addr) (len cap : Nat) (l : List Rate), u = .slice a len cap ∧ Came W a len cap l := by
  have ck : Tryd.prog.cellsOf 38 = 5 := by kernel_rfl
  rcases open_slice Tryd.underlying24 hf with ⟨hcs, _⟩ | ⟨x, ln, cp, m, n, D, Pl, hcs, hb, hl, hm, hmm, _, hi⟩
  · obtain rfl : u = .slice none 0 0 := by simpa using hcs
    exact ⟨none, 0, 0, [], rfl, Cells.nil_ _ _ _, by unfold maxLen; omega, by intro s hs; simp at hs⟩
  · obtain rfl : u = .slice (some x) ln cp := by simpa using hcs
    simp only [if_true] at hmm
    subst hmm
    rw [ck] at hi
    obtain ⟨l, hll, hp⟩ := list_of (fun k s => Rate.fits s ∧ ∀ j, j < 5 → W.cell? (x.add (k * 5 + j)) = s.cells[j]?) ln (fun k hk => by
      obtain ⟨cs', hc, ht⟩ := hi k (by omega)
      obtain ⟨s, rfl, hfit⟩ := read_one ht
      refine ⟨s, hfit, fun j hj => ?_⟩
      have := (World.cells?_some hc).2.2 j hj
      rw [Go.Deep.add_add] at this
      exact this)
    refine ⟨some x, ln, _, l, rfl, ⟨by rw [flat_len, hll], fun h0 => ⟨x, rfl, fun j u hu => ?_⟩⟩, by omega, fun s hs => ?_⟩
    · have hj : j < (flat l).length := (List.getElem?_eq_some_iff.1 hu).1
      rw [flat_len] at hj
      have hk : j / 5 < l.length := by omega
      have e := flat_at l (j / 5) l[j/5] (List.getElem?_eq_getElem hk) (j % 5) (by omega)
      rw [show j / 5 * 5 + j % 5 = j by omega, hu] at e
      have := (hp (j / 5) l[j/5] (List.getElem?_eq_getElem hk)).2 (j % 5) (by omega)
      rw [show j / 5 * 5 + j % 5 = j by omega, ← e] at this
      exact this
    · obtain ⟨k, hk⟩ := List.getElem?_of_mem hs
      exact (hp k s hk).1
theorem open_many {H : Type} {enc : TypeId × Value → H} {W : World} {a : Option Addr} {len cap : Nat} {d : DataW H} {p : List MemPlace}
    (h : DataW.Trod enc Tryd.prog W 0 (fun _ => true) true 24 (.slice a len cap) d p) : ∃ l : List Rate, Came W a len cap l := by
  obtain ⟨fuel, hf⟩ := h
  obtain ⟨a2, l2, c2, l, e, hl⟩ := open_field (u := .slice a len cap) hf
  simp only [Value.slice.injEq] at e
  obtain ⟨rfl, rfl, rfl⟩ := e
  exact ⟨l, hl⟩

/-- a record that was boxed -/
theorem box_ {w : World} {s : Rate} {g : Nat} (h : Cells w 5 (some ⟨g, 0, none⟩) 1 s.cells) : w.cell? ⟨g, 0, none⟩ = some (.int .i64 s.zone) ∧ w.cell? ⟨g, 1, none⟩ = some (.int .i64 s.grams) ∧ w.cell? ⟨g, 2, none⟩ = some (.int .i64 s.from_) ∧ w.cell? ⟨g, 3, none⟩ = some (.int .i64 s.until_) ∧ w.cell? ⟨g, 4, none⟩ = some (.int .i64 s.cents) := by
  obtain ⟨ad, e, hc⟩ := h.2 (by simp [Rate.cells])
  obtain rfl := Option.some.inj e
  have gg := fun j u hu => add_none g 0 j ▸ hc j u hu
  exact ⟨by simpa using gg 0 _ rfl, by simpa using gg 1 _ rfl, by simpa using gg 2 _ rfl, by simpa using gg 3 _ rfl, by simpa using gg 4 _ rfl⟩
theorem box_new (w : World) (s : Rate) (T : TypeId) : Cells (w.alloc (.cells #[.int .i64 s.zone, .int .i64 s.grams, .int .i64 s.from_, .int .i64 s.until_, .int .i64 s.cents] T)) 5 (some ⟨w.heap.size, 0, none⟩) 1 s.cells :=
  ⟨by simp [Rate.cells], fun _ => ⟨_, rfl, fun j u hu => by
    have hj : j < 5 := by have := (List.getElem?_eq_some_iff.1 hu).1; simpa [Rate.cells] using this
    rw [add_none, World.cell?_alloc_new]
    match j, hj with
    | 0, _ => simpa [Rate.cells] using hu
    | 1, _ => simpa [Rate.cells] using hu
    | 2, _ => simpa [Rate.cells] using hu
    | 3, _ => simpa [Rate.cells] using hu
    | 4, _ => simpa [Rate.cells] using hu
⟩⟩
end Go.Proofs.YtlljmgphgmklcaaDoor.ORate

/- The drawing cursor's method next as a plain function on tapes. No condition. -/
namespace Go.Proofs.YtlljmgphgmklcaaDoor.GsL1CurNext
set_option linter.unusedVariables false
open Go.RowKit
open Go.Proofs.YtlljmgphgmklcaaDoor.GoC
def P (t : GoC.Tape) : Option (Int × GoC.Tape) := if 0 < t.left then some (t.vals 0, t.tail) else none
theorem C (t : GoC.Tape) (g : Nat) (A : Option Addr) (c b : Nat) (w : World) (K : Hid (CurIs w b g A c t)) {r : Int} {t' : GoC.Tape} (H : Hid (P t = some (r, t'))) :
    Calls Tryd.prog 54 #[.pointer (some ⟨g, 0, none⟩)] w (fun e w' => e = .returned (.int .i64 r) ∧ CurIs w' b g A c t' ∧ w.grownBy w' (Value.slice (some ⟨g, 0, none⟩) 1 1).ownBlock) := GoC.C t w b g A c K H
end Go.Proofs.YtlljmgphgmklcaaDoor.GsL1CurNext

/- (*loop.example/g01062/spec.l1Cur).pick as a plain function, and the contract of the program's: where the plain one has an answer, the program has it. Conditions: slices read as lists. -/
namespace Go.Proofs.YtlljmgphgmklcaaDoor.GsL1CurPick
set_option linter.unusedVariables false
set_option linter.unusedSimpArgs false
open Go.RowKit
open Go.Proofs.YtlljmgphgmklcaaDoor.Rowed Go.Proofs.YtlljmgphgmklcaaDoor.Turn Go.Proofs.YtlljmgphgmklcaaDoor.Aid Go.Proofs.YtlljmgphgmklcaaDoor.GoP Go.Proofs.YtlljmgphgmklcaaDoor.GoM

def j0 (n_1 : Int) (s : Int × Go.Proofs.YtlljmgphgmklcaaDoor.GoC.Tape) : Option (Int × Go.Proofs.YtlljmgphgmklcaaDoor.GoC.Tape) :=
  unp2 s fun x_5j0 c0_c0j0 =>
  guardK (¬ (n_1 = 0)) <|
  letK (Int.tmod x_5j0 n_1) fun (t_17 : Int) =>
  some (t_17, c0_c0j0)

def P (c : Go.Proofs.YtlljmgphgmklcaaDoor.GoC.Tape) (n_1 : Int) : Option (Int × Go.Proofs.YtlljmgphgmklcaaDoor.GoC.Tape) :=
  letK (decide (n_1 ≤ 1)) fun (t_2 : Bool) =>
  iteK t_2
  (some (0, c))
  (bind2 (Go.Proofs.YtlljmgphgmklcaaDoor.GsL1CurNext.P c) fun (t_5 : Int) (t_5_tp : Go.Proofs.YtlljmgphgmklcaaDoor.GoC.Tape) =>
  letK (decide (200 < n_1)) fun (t_8 : Bool) =>
  iteK t_8
  (letK (IntKind.i64.wrap (t_5 * 256)) fun (t_10 : Int) =>
  bind2 (Go.Proofs.YtlljmgphgmklcaaDoor.GsL1CurNext.P t_5_tp) fun (t_12 : Int) (t_12_tp : Go.Proofs.YtlljmgphgmklcaaDoor.GoC.Tape) =>
  letK (IntKind.i64.wrap (t_10 + t_12)) fun (t_13 : Int) =>
  j0 n_1 (t_13, t_12_tp))
  (j0 n_1 (t_5, t_5_tp)))

set_option maxRecDepth 100000 in
set_option maxHeartbeats 2000000 in
theorem C (c : Go.Proofs.YtlljmgphgmklcaaDoor.GoC.Tape) (n_1 : Int)   (g0 : Nat) (Ac0 : Option Addr) (cc0 : Nat) (bc0 : Nat) (w : World)   (K0 : Hid (Go.Proofs.YtlljmgphgmklcaaDoor.GoC.CurIs w bc0 g0 Ac0 cc0 c)) {r : Int} {t_ : Go.Proofs.YtlljmgphgmklcaaDoor.GoC.Tape} (H : Hid (P c n_1 = some (r, t_))) :
    Calls Tryd.prog 45 #[.pointer (some ⟨g0, 0, none⟩), .int .i64 n_1] w (fun e w' => e = .returned (.int .i64 r) ∧ Go.Proofs.YtlljmgphgmklcaaDoor.GoC.CurIs w' bc0 g0 Ac0 cc0 t_ ∧ w.grownBy w' (Value.slice (some ⟨g0, 0, none⟩) 1 1).ownBlock) := by
  have HB := Lib.hid (Aid.grown_refl w (Value.slice (some ⟨g0, 0, none⟩) 1 1).ownBlock)
  unfold P at H
  have L0 : bc0 ≤ w.heap.size := by have := Go.Proofs.YtlljmgphgmklcaaDoor.GoC.cur_lt K0.out; omega
  go_enter Tryd.func45, Tryd.ntmps45
  replace H := let_hid H
  obtain ⟨t_2, ht_2, H⟩ := H
  cases t_2 with
  | false =>
    replace H := ite_f H
    replace H := bind2_hid H
    obtain ⟨t_5, t_5_tp, qt_5, H⟩ := H
    go_wp2_with fail
    go_at_call 54
    refine (Go.Proofs.YtlljmgphgmklcaaDoor.GsL1CurNext.C (c) (g0) (Ac0) (cc0) (bc0) _   K0 qt_5).mono ?_
    rintro e_t_5 wt_5 ⟨rfl, kt_5, gt_5⟩
    have Kt_5 := Lib.hid kt_5
    have Gt_5 : Hid (w.grownBy wt_5 (Value.slice (some ⟨g0, 0, none⟩) 1 1).ownBlock) := Lib.hid gt_5
    clear kt_5 gt_5
    have HBwt_5 := Lib.hid (Aid.grown_tr HB.out Gt_5.out)
    clear K0 Gt_5
    replace H := let_hid H
    obtain ⟨t_8, ht_8, H⟩ := H
    cases t_8 with
    | false =>
      replace H := ite_f H
      unfold j0 at H
      replace H := unp2_hid H
      replace H := guard_hid H
      obtain ⟨hz_t_17, H⟩ := H
      replace H := let_hid H
      obtain ⟨t_17, ht_17, H⟩ := H
      cases ret_hid H
      go_wp2_with fail
      go_ret
      exact ⟨rfl, Kt_5.out, HBwt_5.out⟩
    | true =>
      replace H := ite_t H
      replace H := let_hid H
      obtain ⟨t_10, ht_10, H⟩ := H
      replace H := bind2_hid H
      obtain ⟨t_12, t_12_tp, qt_12, H⟩ := H
      go_wp2_with fail
      go_at_call 54
      refine (Go.Proofs.YtlljmgphgmklcaaDoor.GsL1CurNext.C (t_5_tp) (g0) (Ac0) (cc0) (bc0) _   Kt_5 qt_12).mono ?_
      rintro e_t_12 wt_12 ⟨rfl, kt_12, gt_12⟩
      have Kt_12 := Lib.hid kt_12
      have Gt_12 : Hid (wt_5.grownBy wt_12 (Value.slice (some ⟨g0, 0, none⟩) 1 1).ownBlock) := Lib.hid gt_12
      clear kt_12 gt_12
      have HBwt_12 := Lib.hid (Aid.grown_tr HBwt_5.out Gt_12.out)
      clear Kt_5 Gt_12
      replace H := let_hid H
      obtain ⟨t_13, ht_13, H⟩ := H
      unfold j0 at H
      replace H := unp2_hid H
      replace H := guard_hid H
      obtain ⟨hz_t_17, H⟩ := H
      replace H := let_hid H
      obtain ⟨t_17, ht_17, H⟩ := H
      cases ret_hid H
      go_wp2_with fail
      go_ret
      exact ⟨rfl, Kt_12.out, HBwt_12.out⟩
  | true =>
    replace H := ite_t H
    cases ret_hid H
    go_wp2_with fail
    go_ret
    exact ⟨rfl, K0.out, HB.out⟩
end Go.Proofs.YtlljmgphgmklcaaDoor.GsL1CurPick

/- (*loop.example/g01062/spec.l1Cur).one as a plain function, and the contract of the program's: where the plain one has an answer, the program has it. Conditions: slices read as lists. -/
namespace Go.Proofs.YtlljmgphgmklcaaDoor.GsL1CurOne
set_option linter.unusedVariables false
set_option linter.unusedSimpArgs false
open Go.RowKit
open Go.Proofs.YtlljmgphgmklcaaDoor.Rowed Go.Proofs.YtlljmgphgmklcaaDoor.Turn Go.Proofs.YtlljmgphgmklcaaDoor.Aid Go.Proofs.YtlljmgphgmklcaaDoor.GoP Go.Proofs.YtlljmgphgmklcaaDoor.GoM

def P (c : Go.Proofs.YtlljmgphgmklcaaDoor.GoC.Tape) (n_1 : Int) : Option (Bool × Go.Proofs.YtlljmgphgmklcaaDoor.GoC.Tape) :=
  bind2 (Go.Proofs.YtlljmgphgmklcaaDoor.GsL1CurPick.P c n_1) fun (t_3 : Int) (t_3_tp : Go.Proofs.YtlljmgphgmklcaaDoor.GoC.Tape) =>
  letK (t_3 == 0) fun (t_4 : Bool) =>
  some (t_4, t_3_tp)

set_option maxRecDepth 100000 in
set_option maxHeartbeats 2000000 in
theorem C (c : Go.Proofs.YtlljmgphgmklcaaDoor.GoC.Tape) (n_1 : Int)   (g0 : Nat) (Ac0 : Option Addr) (cc0 : Nat) (bc0 : Nat) (w : World)   (K0 : Hid (Go.Proofs.YtlljmgphgmklcaaDoor.GoC.CurIs w bc0 g0 Ac0 cc0 c)) {r : Bool} {t_ : Go.Proofs.YtlljmgphgmklcaaDoor.GoC.Tape} (H : Hid (P c n_1 = some (r, t_))) :
    Calls Tryd.prog 43 #[.pointer (some ⟨g0, 0, none⟩), .int .i64 n_1] w (fun e w' => e = .returned (.bool r) ∧ Go.Proofs.YtlljmgphgmklcaaDoor.GoC.CurIs w' bc0 g0 Ac0 cc0 t_ ∧ w.grownBy w' (Value.slice (some ⟨g0, 0, none⟩) 1 1).ownBlock) := by
  have HB := Lib.hid (Aid.grown_refl w (Value.slice (some ⟨g0, 0, none⟩) 1 1).ownBlock)
  unfold P at H
  have L0 : bc0 ≤ w.heap.size := by have := Go.Proofs.YtlljmgphgmklcaaDoor.GoC.cur_lt K0.out; omega
  go_enter Tryd.func43, Tryd.ntmps43
  replace H := bind2_hid H
  obtain ⟨t_3, t_3_tp, qt_3, H⟩ := H
  go_wp2_with fail
  go_at_call 45
  refine (Go.Proofs.YtlljmgphgmklcaaDoor.GsL1CurPick.C (c) (n_1) (g0) (Ac0) (cc0) (bc0) _   K0 qt_3).mono ?_
  rintro e_t_3 wt_3 ⟨rfl, kt_3, gt_3⟩
  have Kt_3 := Lib.hid kt_3
  have Gt_3 : Hid (w.grownBy wt_3 (Value.slice (some ⟨g0, 0, none⟩) 1 1).ownBlock) := Lib.hid gt_3
  clear kt_3 gt_3
  have HBwt_3 := Lib.hid (Aid.grown_tr HB.out Gt_3.out)
  clear K0 Gt_3
  replace H := let_hid H
  obtain ⟨t_4, ht_4, H⟩ := H
  cases ret_hid H
  go_wp2_with fail
  go_ret
  exact ⟨rfl, Kt_3.out, HBwt_3.out⟩
end Go.Proofs.YtlljmgphgmklcaaDoor.GsL1CurOne

/- (*loop.example/g01062/spec.l1Cur).among as a plain function, and the contract of the program's: where the plain one has an answer, the program has it. Conditions: slices read as lists. -/
namespace Go.Proofs.YtlljmgphgmklcaaDoor.GsL1CurAmong
set_option linter.unusedVariables false
set_option linter.unusedSimpArgs false
open Go.RowKit
open Go.Proofs.YtlljmgphgmklcaaDoor.Rowed Go.Proofs.YtlljmgphgmklcaaDoor.Turn Go.Proofs.YtlljmgphgmklcaaDoor.Aid Go.Proofs.YtlljmgphgmklcaaDoor.GoP Go.Proofs.YtlljmgphgmklcaaDoor.GoM

def P (c : Go.Proofs.YtlljmgphgmklcaaDoor.GoC.Tape) (list : (List Int)) : Option (Int × Go.Proofs.YtlljmgphgmklcaaDoor.GoC.Tape) :=
  bind2 (Go.Proofs.YtlljmgphgmklcaaDoor.GsL1CurPick.P c (list.length : Int)) fun (t_5 : Int) (t_5_tp : Go.Proofs.YtlljmgphgmklcaaDoor.GoC.Tape) =>
  Option.bind (idx list t_5) fun (yt_6 : Int) =>
  some (yt_6, t_5_tp)

set_option maxRecDepth 100000 in
set_option maxHeartbeats 2000000 in
theorem C (c : Go.Proofs.YtlljmgphgmklcaaDoor.GoC.Tape) (list : (List Int)) (A1 : Option Addr) (c1 : Nat)  (g0 : Nat) (Ac0 : Option Addr) (cc0 : Nat) (bc0 : Nat) (w : World) (M1 : Hid (Cells w 1 A1 list.length (Go.Proofs.YtlljmgphgmklcaaDoor.HelpInt.iv list))) (N1 : Hid (list.length ≤ 9223372036854775807))  (K0 : Hid (Go.Proofs.YtlljmgphgmklcaaDoor.GoC.CurIs w bc0 g0 Ac0 cc0 c)) (X1 : Hid (0 < list.length → Apart A1 (some ⟨g0, 0, none⟩))) {r : Int} {t_ : Go.Proofs.YtlljmgphgmklcaaDoor.GoC.Tape} (H : Hid (P c list = some (r, t_))) :
    Calls Tryd.prog 23 #[.pointer (some ⟨g0, 0, none⟩), .slice A1 list.length c1] w (fun e w' => e = .returned (.int .i64 r) ∧ Go.Proofs.YtlljmgphgmklcaaDoor.GoC.CurIs w' bc0 g0 Ac0 cc0 t_ ∧ w.grownBy w' (Value.slice (some ⟨g0, 0, none⟩) 1 1).ownBlock) := by
  have HB := Lib.hid (Aid.grown_refl w (Value.slice (some ⟨g0, 0, none⟩) 1 1).ownBlock)
  unfold P at H
  have N1o := N1.out
  have L0 : bc0 ≤ w.heap.size := by have := Go.Proofs.YtlljmgphgmklcaaDoor.GoC.cur_lt K0.out; omega
  go_enter Tryd.func23, Tryd.ntmps23
  replace H := bind2_hid H
  obtain ⟨t_5, t_5_tp, qt_5, H⟩ := H
  go_wp2_with fail
  go_at_call 45
  refine (Go.Proofs.YtlljmgphgmklcaaDoor.GsL1CurPick.C (c) ((list.length : Int)) (g0) (Ac0) (cc0) (bc0) _   K0 qt_5).mono ?_
  rintro e_t_5 wt_5 ⟨rfl, kt_5, gt_5⟩
  have Kt_5 := Lib.hid kt_5
  have Gt_5 : Hid (w.grownBy wt_5 (Value.slice (some ⟨g0, 0, none⟩) 1 1).ownBlock) := Lib.hid gt_5
  clear kt_5 gt_5
  have HBwt_5 := Lib.hid (Aid.grown_tr HB.out Gt_5.out)
  clear K0 Gt_5
  replace H := idx_hid H
  obtain ⟨nt_6, yt_6, et_6, lt_6, gt_6, H⟩ := H
  subst et_6
  obtain ⟨ab_t_6, ao_t_6, zt_6, At_6, z_t_6, ct_6_0⟩ := Go.Proofs.YtlljmgphgmklcaaDoor.HelpInt.Ints.at_ M1.out lt_6
  obtain rfl := Option.some.inj (gt_6.out.symm.trans z_t_6)
  subst At_6
  have ltt_6 := cell_lt ct_6_0
  replace ct_6_0 := cell_other ct_6_0 HBwt_5.out (Go.Proofs.YtlljmgphgmklcaaDoor.GoC.apart_x X1.out (by omega))
  clear z_t_6
  have b0t_6 : (0 : Int) ≤ (nt_6 : Int) := by omega
  have b1t_6 : (nt_6 : Int) < ((list.length : Nat) : Int) := by omega
  have b2t_6 : ((nt_6 : Int)).toNat = nt_6 := by omega
  cases ret_hid H
  go_wp2_with fail
  go_ret
  exact ⟨rfl, Kt_5.out, HBwt_5.out⟩
end Go.Proofs.YtlljmgphgmklcaaDoor.GsL1CurAmong

/- (*loop.example/g01062/spec.l1Cur).rate as a plain function, and the contract of the program's: where the plain one has an answer, the program has it. Conditions: slices read as lists. -/
namespace Go.Proofs.YtlljmgphgmklcaaDoor.GsL1CurRate
set_option linter.unusedVariables false
set_option linter.unusedSimpArgs false
open Go.RowKit
open Go.Proofs.YtlljmgphgmklcaaDoor.Rowed Go.Proofs.YtlljmgphgmklcaaDoor.Turn Go.Proofs.YtlljmgphgmklcaaDoor.Aid Go.Proofs.YtlljmgphgmklcaaDoor.GoP Go.Proofs.YtlljmgphgmklcaaDoor.GoM

def P (c : Go.Proofs.YtlljmgphgmklcaaDoor.GoC.Tape) (zone : Int) (grams : Int) (from_3 : Int) : Option (Go.Proofs.YtlljmgphgmklcaaDoor.PRate.Rate × Go.Proofs.YtlljmgphgmklcaaDoor.GoC.Tape) :=
  letK ([5, 9, 9, 19]) fun (t_6 : (List Int)) =>
  bind2 (Go.Proofs.YtlljmgphgmklcaaDoor.GsL1CurAmong.P c t_6) fun (t_7 : Int) (t_7_tp : Go.Proofs.YtlljmgphgmklcaaDoor.GoC.Tape) =>
  letK (IntKind.i64.wrap (from_3 + t_7)) fun (t_8 : Int) =>
  letK ([3, 5, 5, 10, 12, 25, 9999]) fun (t_10 : (List Int)) =>
  bind2 (Go.Proofs.YtlljmgphgmklcaaDoor.GsL1CurAmong.P t_7_tp t_10) fun (t_11 : Int) (t_11_tp : Go.Proofs.YtlljmgphgmklcaaDoor.GoC.Tape) =>
  bind2 (Go.Proofs.YtlljmgphgmklcaaDoor.GsL1CurPick.P t_11_tp 64) fun (t_16 : Int) (t_16_tp : Go.Proofs.YtlljmgphgmklcaaDoor.GoC.Tape) =>
  letK (t_16 == 0) fun (t_17 : Bool) =>
  iteK t_17
  (letK (IntKind.i64.wrap (from_3 - 1)) fun (t_22 : Int) =>
  letK ([t_22, 4000, 4001]) fun (t_23 : (List Int)) =>
  bind2 (Go.Proofs.YtlljmgphgmklcaaDoor.GsL1CurAmong.P t_16_tp t_23) fun (t_24 : Int) (t_24_tp : Go.Proofs.YtlljmgphgmklcaaDoor.GoC.Tape) =>
  some ((Go.Proofs.YtlljmgphgmklcaaDoor.PRate.Rate.mk zone grams from_3 t_24 t_11), t_24_tp))
  (letK (t_16 == 1) fun (t_27 : Bool) =>
  iteK t_27
  (letK ([0, 10000]) fun (t_30 : (List Int)) =>
  bind2 (Go.Proofs.YtlljmgphgmklcaaDoor.GsL1CurAmong.P t_16_tp t_30) fun (t_31 : Int) (t_31_tp : Go.Proofs.YtlljmgphgmklcaaDoor.GoC.Tape) =>
  some ((Go.Proofs.YtlljmgphgmklcaaDoor.PRate.Rate.mk zone grams from_3 t_8 t_31), t_31_tp))
  (some ((Go.Proofs.YtlljmgphgmklcaaDoor.PRate.Rate.mk zone grams from_3 t_8 t_11), t_16_tp)))

set_option maxRecDepth 100000 in
set_option maxHeartbeats 2000000 in
theorem C (c : Go.Proofs.YtlljmgphgmklcaaDoor.GoC.Tape) (zone : Int) (grams : Int) (from_3 : Int)   (g0 : Nat) (Ac0 : Option Addr) (cc0 : Nat) (bc0 : Nat) (w : World)   (K0 : Hid (Go.Proofs.YtlljmgphgmklcaaDoor.GoC.CurIs w bc0 g0 Ac0 cc0 c)) {r : Go.Proofs.YtlljmgphgmklcaaDoor.PRate.Rate} {t_ : Go.Proofs.YtlljmgphgmklcaaDoor.GoC.Tape} (H : Hid (P c zone grams from_3 = some (r, t_))) :
    Calls Tryd.prog 44 #[.pointer (some ⟨g0, 0, none⟩), .int .i64 zone, .int .i64 grams, .int .i64 from_3] w (fun e w' => e = .returned ((Go.Proofs.YtlljmgphgmklcaaDoor.PRate.Rate.val r)) ∧ Go.Proofs.YtlljmgphgmklcaaDoor.GoC.CurIs w' bc0 g0 Ac0 cc0 t_ ∧ w.grownBy w' (Value.slice (some ⟨g0, 0, none⟩) 1 1).ownBlock) := by
  have HB := Lib.hid (Aid.grown_refl w (Value.slice (some ⟨g0, 0, none⟩) 1 1).ownBlock)
  unfold P at H
  have L0 : bc0 ≤ w.heap.size := by have := Go.Proofs.YtlljmgphgmklcaaDoor.GoC.cur_lt K0.out; omega
  go_enter Tryd.func44, Tryd.ntmps44
  obtain ⟨w_t_0, hw_t_0⟩ : ∃ x, w.alloc (.cells #[.int .i64 0, .int .i64 0, .int .i64 0, .int .i64 0, .int .i64 0] 38) = x := ⟨_, rfl⟩
  have bw_t_0 : Below w.heap.size w w_t_0 := by rw [← hw_t_0]; exact (Below.refl _ _).alloc (Nat.le_refl _) _
  have Dt_0_c0 := Lib.hid (Go.Proofs.YtlljmgphgmklcaaDoor.GoC.apart_cur K0.out)
  have HBw_t_0 := Lib.hid (grown_below HB.out bw_t_0)
  replace K0 := Lib.hid (Go.Proofs.YtlljmgphgmklcaaDoor.GoC.cur_below K0.out bw_t_0)
  clear bw_t_0
  have kt_0_0 : w_t_0.cell? ⟨w.heap.size, 0, none⟩ = some (.int .i64 0) := by rw [← hw_t_0]; exact box_new _ _ _ 0 _ rfl
  have kt_0_1 : w_t_0.cell? ⟨w.heap.size, 1, none⟩ = some (.int .i64 0) := by rw [← hw_t_0]; exact box_new _ _ _ 1 _ rfl
  have kt_0_2 : w_t_0.cell? ⟨w.heap.size, 2, none⟩ = some (.int .i64 0) := by rw [← hw_t_0]; exact box_new _ _ _ 2 _ rfl
  have kt_0_3 : w_t_0.cell? ⟨w.heap.size, 3, none⟩ = some (.int .i64 0) := by rw [← hw_t_0]; exact box_new _ _ _ 3 _ rfl
  have kt_0_4 : w_t_0.cell? ⟨w.heap.size, 4, none⟩ = some (.int .i64 0) := by rw [← hw_t_0]; exact box_new _ _ _ 4 _ rfl
  have Ot_0 : Hid (w_t_0.ownsRow w.heap.size 38 5 (.slice (some ⟨w.heap.size, 0, none⟩) 1 1) 1 [.int .i64 0, .int .i64 0, .int .i64 0, .int .i64 0, .int .i64 0]) := Lib.hid (by rw [← hw_t_0]; exact own_laid (n := 1) HB.out.size rfl rfl (by unfold maxLen; omega))
  replace H := let_hid H
  obtain ⟨t_6, ht_6, H⟩ := H
  obtain ⟨w_t_6, hw_t_6⟩ : ∃ x, w_t_0.alloc (.cells #[.int .i64 5, .int .i64 9, .int .i64 9, .int .i64 19] 3) = x := ⟨_, rfl⟩
  have bw_t_6 : Below w_t_0.heap.size w_t_0 w_t_6 := by rw [← hw_t_6]; exact (Below.refl _ _).alloc (Nat.le_refl _) _
  have hs_t_6 := HBw_t_0.out.size
  have nt_6 : t_6.length = 4 := by rw [← ht_6]; rfl
  have Ot_6 : Hid (w_t_6.ownsRow w.heap.size 3 1 (.slice (some ⟨w_t_0.heap.size, 0, none⟩) 4 4) 4 (Go.Proofs.YtlljmgphgmklcaaDoor.HelpInt.iv t_6)) := by
    rw [← hw_t_6, ← ht_6]
    have e_ : ([.int .i64 5, .int .i64 9, .int .i64 9, .int .i64 19] : List Value) = (Go.Proofs.YtlljmgphgmklcaaDoor.HelpInt.iv ([5, 9, 9, 19] : List Int)) := rfl
    exact Lib.hid (own_laid (n := 4) hs_t_6 e_ rfl (by unfold maxLen; omega))
  clear hs_t_6
  have hht_6 := Lib.hid ht_6
  clear ht_6
  replace nt_6 := Lib.hid nt_6
  have Dt_6_c0 := Lib.hid (Go.Proofs.YtlljmgphgmklcaaDoor.GoC.apart_cur K0.out)
  have Dt_6_t_0 := Lib.hid (apart_box kt_0_0)
  have HBw_t_6 := Lib.hid (grown_below HBw_t_0.out bw_t_6)
  have kt_0_0__1 := cell_below bw_t_6 kt_0_0
  have kt_0_1__2 := cell_below bw_t_6 kt_0_1
  have kt_0_2__3 := cell_below bw_t_6 kt_0_2
  have kt_0_3__4 := cell_below bw_t_6 kt_0_3
  have kt_0_4__5 := cell_below bw_t_6 kt_0_4
  replace K0 := Lib.hid (Go.Proofs.YtlljmgphgmklcaaDoor.GoC.cur_below K0.out bw_t_6)
  replace Ot_0 := Lib.hid (own_below Ot_0.out bw_t_6)
  clear bw_t_6
  replace H := bind2_hid H
  obtain ⟨t_7, t_7_tp, qt_7, H⟩ := H
  go_wp2_with fail
  clear kt_0_0 kt_0_1 kt_0_2 kt_0_3 kt_0_4
  have hc_ := nt_6.out
  have hv_ : (Value.slice (some ⟨w_t_0.heap.size, 0, none⟩) 4 4 : Value) = Value.slice (some ⟨w_t_0.heap.size, 0, none⟩) t_6.length 4 := by rw [hc_]
  try rw [hv_]
  replace Ot_6 := Lib.hid (own_len hc_ Ot_6.out)
  clear hc_ hv_
  go_wp2_with fail
  go_at_call 23
  refine (Go.Proofs.YtlljmgphgmklcaaDoor.GsL1CurAmong.C (c) (t_6) (some ⟨w_t_0.heap.size, 0, none⟩) 4 (g0) (Ac0) (cc0) (bc0) _   (Lib.hid (own_cells Ot_6.out)) (Lib.hid (own_max Ot_6.out)) K0 (Lib.hid (fun _ => Dt_6_c0.out)) qt_7).mono ?_
  rintro e_t_7 wt_7 ⟨rfl, kt_7, gt_7⟩
  have Kt_7 := Lib.hid kt_7
  have Gt_7 : Hid (w_t_6.grownBy wt_7 (Value.slice (some ⟨g0, 0, none⟩) 1 1).ownBlock) := Lib.hid gt_7
  clear kt_7 gt_7
  have HBwt_7 := Lib.hid (Aid.grown_tr HBw_t_6.out Gt_7.out)
  replace kt_0_0__1 := cell_other kt_0_0__1 Gt_7.out (Apart.symm Dt_0_c0.out)
  replace kt_0_1__2 := cell_other kt_0_1__2 Gt_7.out (Apart.symm Dt_0_c0.out)
  replace kt_0_2__3 := cell_other kt_0_2__3 Gt_7.out (Apart.symm Dt_0_c0.out)
  replace kt_0_3__4 := cell_other kt_0_3__4 Gt_7.out (Apart.symm Dt_0_c0.out)
  replace kt_0_4__5 := cell_other kt_0_4__5 Gt_7.out (Apart.symm Dt_0_c0.out)
  replace Ot_0 := Lib.hid (own_other Ot_0.out Gt_7.out (Apart.symm Dt_0_c0.out))
  replace Ot_6 := Lib.hid (own_other Ot_6.out Gt_7.out (Apart.symm Dt_6_c0.out))
  clear K0 Gt_7
  replace H := let_hid H
  obtain ⟨t_8, ht_8, H⟩ := H
  replace H := let_hid H
  obtain ⟨t_10, ht_10, H⟩ := H
  obtain ⟨w_t_10, hw_t_10⟩ : ∃ x, wt_7.alloc (.cells #[.int .i64 3, .int .i64 5, .int .i64 5, .int .i64 10, .int .i64 12, .int .i64 25, .int .i64 9999] 3) = x := ⟨_, rfl⟩
  have bw_t_10 : Below wt_7.heap.size wt_7 w_t_10 := by rw [← hw_t_10]; exact (Below.refl _ _).alloc (Nat.le_refl _) _
  have hs_t_10 := HBwt_7.out.size
  have nt_10 : t_10.length = 7 := by rw [← ht_10]; rfl
  have Ot_10 : Hid (w_t_10.ownsRow w.heap.size 3 1 (.slice (some ⟨wt_7.heap.size, 0, none⟩) 7 7) 7 (Go.Proofs.YtlljmgphgmklcaaDoor.HelpInt.iv t_10)) := by
    rw [← hw_t_10, ← ht_10]
    have e_ : ([.int .i64 3, .int .i64 5, .int .i64 5, .int .i64 10, .int .i64 12, .int .i64 25, .int .i64 9999] : List Value) = (Go.Proofs.YtlljmgphgmklcaaDoor.HelpInt.iv ([3, 5, 5, 10, 12, 25, 9999] : List Int)) := rfl
    exact Lib.hid (own_laid (n := 7) hs_t_10 e_ rfl (by unfold maxLen; omega))
  clear hs_t_10
  have hht_10 := Lib.hid ht_10
  clear ht_10
  replace nt_10 := Lib.hid nt_10
  have Dt_10_t_6 := Lib.hid (apart_fresh Ot_6.out)
  have Dt_10_c0 := Lib.hid (Go.Proofs.YtlljmgphgmklcaaDoor.GoC.apart_cur Kt_7.out)
  have Dt_10_t_0 := Lib.hid (apart_box kt_0_0__1)
  have HBw_t_10 := Lib.hid (grown_below HBwt_7.out bw_t_10)
  have kt_0_0__6 := cell_below bw_t_10 kt_0_0__1
  have kt_0_1__7 := cell_below bw_t_10 kt_0_1__2
  have kt_0_2__8 := cell_below bw_t_10 kt_0_2__3
  have kt_0_3__9 := cell_below bw_t_10 kt_0_3__4
  have kt_0_4__10 := cell_below bw_t_10 kt_0_4__5
  replace Ot_6 := Lib.hid (own_below Ot_6.out bw_t_10)
  replace Kt_7 := Lib.hid (Go.Proofs.YtlljmgphgmklcaaDoor.GoC.cur_below Kt_7.out bw_t_10)
  replace Ot_0 := Lib.hid (own_below Ot_0.out bw_t_10)
  clear bw_t_10
  replace H := bind2_hid H
  obtain ⟨t_11, t_11_tp, qt_11, H⟩ := H
  go_wp2_with fail
  clear kt_0_0__1 kt_0_1__2 kt_0_2__3 kt_0_3__4 kt_0_4__5
  have hc_ := nt_10.out
  have hv_ : (Value.slice (some ⟨wt_7.heap.size, 0, none⟩) 7 7 : Value) = Value.slice (some ⟨wt_7.heap.size, 0, none⟩) t_10.length 7 := by rw [hc_]
  try rw [hv_]
  replace Ot_10 := Lib.hid (own_len hc_ Ot_10.out)
  clear hc_ hv_
  go_wp2_with fail
  go_at_call 23
  refine (Go.Proofs.YtlljmgphgmklcaaDoor.GsL1CurAmong.C (t_7_tp) (t_10) (some ⟨wt_7.heap.size, 0, none⟩) 7 (g0) (Ac0) (cc0) (bc0) _   (Lib.hid (own_cells Ot_10.out)) (Lib.hid (own_max Ot_10.out)) Kt_7 (Lib.hid (fun _ => Dt_10_c0.out)) qt_11).mono ?_
  rintro e_t_11 wt_11 ⟨rfl, kt_11, gt_11⟩
  have Kt_11 := Lib.hid kt_11
  have Gt_11 : Hid (w_t_10.grownBy wt_11 (Value.slice (some ⟨g0, 0, none⟩) 1 1).ownBlock) := Lib.hid gt_11
  clear kt_11 gt_11
  have HBwt_11 := Lib.hid (Aid.grown_tr HBw_t_10.out Gt_11.out)
  replace kt_0_0__6 := cell_other kt_0_0__6 Gt_11.out (Apart.symm Dt_0_c0.out)
  replace kt_0_1__7 := cell_other kt_0_1__7 Gt_11.out (Apart.symm Dt_0_c0.out)
  replace kt_0_2__8 := cell_other kt_0_2__8 Gt_11.out (Apart.symm Dt_0_c0.out)
  replace kt_0_3__9 := cell_other kt_0_3__9 Gt_11.out (Apart.symm Dt_0_c0.out)
  replace kt_0_4__10 := cell_other kt_0_4__10 Gt_11.out (Apart.symm Dt_0_c0.out)
  replace Ot_0 := Lib.hid (own_other Ot_0.out Gt_11.out (Apart.symm Dt_0_c0.out))
  replace Ot_6 := Lib.hid (own_other Ot_6.out Gt_11.out (Apart.symm Dt_6_c0.out))
  replace Ot_10 := Lib.hid (own_other Ot_10.out Gt_11.out (Apart.symm Dt_10_c0.out))
  clear Kt_7 Gt_11
  obtain ⟨w_r_13, hw_r_13⟩ : ∃ x, wt_11.alloc (.cells #[.int .i64 zone, .int .i64 grams, .int .i64 from_3, .int .i64 t_8, .int .i64 t_11] 38) = x := ⟨_, rfl⟩
  have bw_r_13 : Below wt_11.heap.size wt_11 w_r_13 := by rw [← hw_r_13]; exact (Below.refl _ _).alloc (Nat.le_refl _) _
  have Dr_13_t_6 := Lib.hid (apart_fresh Ot_6.out)
  have Dr_13_t_10 := Lib.hid (apart_fresh Ot_10.out)
  have Dr_13_c0 := Lib.hid (Go.Proofs.YtlljmgphgmklcaaDoor.GoC.apart_cur Kt_11.out)
  have Dr_13_t_0 := Lib.hid (apart_box kt_0_0__6)
  have HBw_r_13 := Lib.hid (grown_below HBwt_11.out bw_r_13)
  have kt_0_0__11 := cell_below bw_r_13 kt_0_0__6
  have kt_0_1__12 := cell_below bw_r_13 kt_0_1__7
  have kt_0_2__13 := cell_below bw_r_13 kt_0_2__8
  have kt_0_3__14 := cell_below bw_r_13 kt_0_3__9
  have kt_0_4__15 := cell_below bw_r_13 kt_0_4__10
  replace Ot_6 := Lib.hid (own_below Ot_6.out bw_r_13)
  replace Ot_10 := Lib.hid (own_below Ot_10.out bw_r_13)
  replace Kt_11 := Lib.hid (Go.Proofs.YtlljmgphgmklcaaDoor.GoC.cur_below Kt_11.out bw_r_13)
  replace Ot_0 := Lib.hid (own_below Ot_0.out bw_r_13)
  clear bw_r_13
  have kr_13_0 : w_r_13.cell? ⟨wt_11.heap.size, 0, none⟩ = some (.int .i64 zone) := by rw [← hw_r_13]; exact box_new _ _ _ 0 _ rfl
  have kr_13_1 : w_r_13.cell? ⟨wt_11.heap.size, 1, none⟩ = some (.int .i64 grams) := by rw [← hw_r_13]; exact box_new _ _ _ 1 _ rfl
  have kr_13_2 : w_r_13.cell? ⟨wt_11.heap.size, 2, none⟩ = some (.int .i64 from_3) := by rw [← hw_r_13]; exact box_new _ _ _ 2 _ rfl
  have kr_13_3 : w_r_13.cell? ⟨wt_11.heap.size, 3, none⟩ = some (.int .i64 t_8) := by rw [← hw_r_13]; exact box_new _ _ _ 3 _ rfl
  have kr_13_4 : w_r_13.cell? ⟨wt_11.heap.size, 4, none⟩ = some (.int .i64 t_11) := by rw [← hw_r_13]; exact box_new _ _ _ 4 _ rfl
  have Or_13 : Hid (w_r_13.ownsRow w.heap.size 38 5 (.slice (some ⟨wt_11.heap.size, 0, none⟩) 1 1) 1 [.int .i64 zone, .int .i64 grams, .int .i64 from_3, .int .i64 t_8, .int .i64 t_11]) := Lib.hid (by rw [← hw_r_13]; exact own_laid (n := 1) HBwt_11.out.size rfl rfl (by unfold maxLen; omega))
  replace H := bind2_hid H
  obtain ⟨t_16, t_16_tp, qt_16, H⟩ := H
  go_wp2_with fail
  clear kt_0_0__6 kt_0_1__7 kt_0_2__8 kt_0_3__9 kt_0_4__10
  go_at_call 45
  refine (Go.Proofs.YtlljmgphgmklcaaDoor.GsL1CurPick.C (t_11_tp) (64) (g0) (Ac0) (cc0) (bc0) _   Kt_11 qt_16).mono ?_
  rintro e_t_16 wt_16 ⟨rfl, kt_16, gt_16⟩
  have Kt_16 := Lib.hid kt_16
  have Gt_16 : Hid (w_r_13.grownBy wt_16 (Value.slice (some ⟨g0, 0, none⟩) 1 1).ownBlock) := Lib.hid gt_16
  clear kt_16 gt_16
  have HBwt_16 := Lib.hid (Aid.grown_tr HBw_r_13.out Gt_16.out)
  replace kt_0_0__11 := cell_other kt_0_0__11 Gt_16.out (Apart.symm Dt_0_c0.out)
  replace kt_0_1__12 := cell_other kt_0_1__12 Gt_16.out (Apart.symm Dt_0_c0.out)
  replace kt_0_2__13 := cell_other kt_0_2__13 Gt_16.out (Apart.symm Dt_0_c0.out)
  replace kt_0_3__14 := cell_other kt_0_3__14 Gt_16.out (Apart.symm Dt_0_c0.out)
  replace kt_0_4__15 := cell_other kt_0_4__15 Gt_16.out (Apart.symm Dt_0_c0.out)
  replace kr_13_0 := cell_other kr_13_0 Gt_16.out (Apart.symm Dr_13_c0.out)
  replace kr_13_1 := cell_other kr_13_1 Gt_16.out (Apart.symm Dr_13_c0.out)
  replace kr_13_2 := cell_other kr_13_2 Gt_16.out (Apart.symm Dr_13_c0.out)
  replace kr_13_3 := cell_other kr_13_3 Gt_16.out (Apart.symm Dr_13_c0.out)
  replace kr_13_4 := cell_other kr_13_4 Gt_16.out (Apart.symm Dr_13_c0.out)
  replace Ot_0 := Lib.hid (own_other Ot_0.out Gt_16.out (Apart.symm Dt_0_c0.out))
  replace Or_13 := Lib.hid (own_other Or_13.out Gt_16.out (Apart.symm Dr_13_c0.out))
  replace Ot_6 := Lib.hid (own_other Ot_6.out Gt_16.out (Apart.symm Dt_6_c0.out))
  replace Ot_10 := Lib.hid (own_other Ot_10.out Gt_16.out (Apart.symm Dt_10_c0.out))
  clear Kt_11 Gt_16
  replace H := let_hid H
  obtain ⟨t_17, ht_17, H⟩ := H
  cases t_17 with
  | false =>
    replace H := ite_f H
    replace H := let_hid H
    obtain ⟨t_27, ht_27, H⟩ := H
    cases t_27 with
    | false =>
      replace H := ite_f H
      obtain ⟨wb35_35, hwb35_35⟩ : ∃ x, (((((wt_16).setCell ⟨w.heap.size, 0, none⟩ (.int .i64 zone)).setCell ⟨w.heap.size, 1, none⟩ (.int .i64 grams)).setCell ⟨w.heap.size, 2, none⟩ (.int .i64 from_3)).setCell ⟨w.heap.size, 3, none⟩ (.int .i64 t_8)).setCell ⟨w.heap.size, 4, none⟩ (.int .i64 t_11) = x := ⟨_, rfl⟩
      have z0b35_35 := Ot_0.out.frozenAt 0
      have z1b35_35 := Ot_0.out.frozenAt 1
      have z2b35_35 := Ot_0.out.frozenAt 2
      have z3b35_35 := Ot_0.out.frozenAt 3
      have z4b35_35 := Ot_0.out.frozenAt 4
      have Sb35_35 := Lib.hid (own_stores [(0, .int .i64 zone), (1, .int .i64 grams), (2, .int .i64 from_3), (3, .int .i64 t_8), (4, .int .i64 t_11)] Ot_0.out)
      have Pb35_35 : Hid (wb35_35.ownsRow w.heap.size 38 5 (.slice (some ⟨w.heap.size, 0, none⟩) 1 1) 1 [.int .i64 zone, .int .i64 grams, .int .i64 from_3, .int .i64 t_8, .int .i64 t_11]) := Lib.hid (by rw [← hwb35_35]; exact Sb35_35.out.1)
      have Gb35_35 : Hid (wt_16.grownBy wb35_35 (Value.slice (some ⟨w.heap.size, 0, none⟩) 1 1).ownBlock) := Lib.hid (by rw [← hwb35_35]; exact Sb35_35.out.2)
      have HBwb35_35 := Lib.hid (Go.Proofs.YtlljmgphgmklcaaDoor.GoC.grown_new HBwt_16.out Gb35_35.out (Go.Proofs.YtlljmgphgmklcaaDoor.GoC.own_ge Ot_0.out))
      clear Sb35_35
      have kr_13_0__16 := cell_other kr_13_0 Gb35_35.out (Apart.symm Dr_13_t_0.out)
      have kr_13_1__17 := cell_other kr_13_1 Gb35_35.out (Apart.symm Dr_13_t_0.out)
      have kr_13_2__18 := cell_other kr_13_2 Gb35_35.out (Apart.symm Dr_13_t_0.out)
      have kr_13_3__19 := cell_other kr_13_3 Gb35_35.out (Apart.symm Dr_13_t_0.out)
      have kr_13_4__20 := cell_other kr_13_4 Gb35_35.out (Apart.symm Dr_13_t_0.out)
      replace Or_13 := Lib.hid (own_other Or_13.out Gb35_35.out (Apart.symm Dr_13_t_0.out))
      replace Ot_6 := Lib.hid (own_other Ot_6.out Gb35_35.out (Apart.symm Dt_6_t_0.out))
      replace Ot_10 := Lib.hid (own_other Ot_10.out Gb35_35.out (Apart.symm Dt_10_t_0.out))
      replace Kt_16 := Lib.hid (Go.Proofs.YtlljmgphgmklcaaDoor.GoC.cur_otherO Kt_16.out Gb35_35.out Dt_0_c0.out L0 Ot_0.out)
      clear Ot_0 Gb35_35
      have kt_0_0__21 : wb35_35.cell? ⟨w.heap.size, 0, none⟩ = some (.int .i64 zone) := Pb35_35.out.cells rfl 0 _ rfl
      have kt_0_1__22 : wb35_35.cell? ⟨w.heap.size, 1, none⟩ = some (.int .i64 grams) := Pb35_35.out.cells rfl 1 _ rfl
      have kt_0_2__23 : wb35_35.cell? ⟨w.heap.size, 2, none⟩ = some (.int .i64 from_3) := Pb35_35.out.cells rfl 2 _ rfl
      have kt_0_3__24 : wb35_35.cell? ⟨w.heap.size, 3, none⟩ = some (.int .i64 t_8) := Pb35_35.out.cells rfl 3 _ rfl
      have kt_0_4__25 : wb35_35.cell? ⟨w.heap.size, 4, none⟩ = some (.int .i64 t_11) := Pb35_35.out.cells rfl 4 _ rfl
      cases ret_hid H
      go_wp2_with fail
      (try simp only [Exit.inBlock, Exit.then])
      refine bodyPost_ret (v := .agg #[.int .i64 zone, .int .i64 grams, .int .i64 from_3, .int .i64 t_8, .int .i64 t_11]) ?hr_ ?hd_ ?_
      case hd_ => rfl
      case hr_ => simp [results, Tryd.results44, kt_0_0__21, kt_0_1__22, kt_0_2__23, kt_0_3__24, kt_0_4__25, go_sem]
      exact ⟨rfl, Kt_16.out, HBwb35_35.out⟩
    | true =>
      replace H := ite_t H
      replace H := let_hid H
      obtain ⟨t_30, ht_30, H⟩ := H
      obtain ⟨w_t_30, hw_t_30⟩ : ∃ x, wt_16.alloc (.cells #[.int .i64 0, .int .i64 10000] 3) = x := ⟨_, rfl⟩
      have bw_t_30 : Below wt_16.heap.size wt_16 w_t_30 := by rw [← hw_t_30]; exact (Below.refl _ _).alloc (Nat.le_refl _) _
      have hs_t_30 := HBwt_16.out.size
      have nt_30 : t_30.length = 2 := by rw [← ht_30]; rfl
      have Ot_30 : Hid (w_t_30.ownsRow w.heap.size 3 1 (.slice (some ⟨wt_16.heap.size, 0, none⟩) 2 2) 2 (Go.Proofs.YtlljmgphgmklcaaDoor.HelpInt.iv t_30)) := by
        rw [← hw_t_30, ← ht_30]
        have e_ : ([.int .i64 0, .int .i64 10000] : List Value) = (Go.Proofs.YtlljmgphgmklcaaDoor.HelpInt.iv ([0, 10000] : List Int)) := rfl
        exact Lib.hid (own_laid (n := 2) hs_t_30 e_ rfl (by unfold maxLen; omega))
      clear hs_t_30
      have hht_30 := Lib.hid ht_30
      clear ht_30
      replace nt_30 := Lib.hid nt_30
      have Dt_30_t_6 := Lib.hid (apart_fresh Ot_6.out)
      have Dt_30_t_10 := Lib.hid (apart_fresh Ot_10.out)
      have Dt_30_c0 := Lib.hid (Go.Proofs.YtlljmgphgmklcaaDoor.GoC.apart_cur Kt_16.out)
      have Dt_30_t_0 := Lib.hid (apart_box kt_0_0__11)
      have Dt_30_r_13 := Lib.hid (apart_box kr_13_0)
      have HBw_t_30 := Lib.hid (grown_below HBwt_16.out bw_t_30)
      have kt_0_0__26 := cell_below bw_t_30 kt_0_0__11
      have kt_0_1__27 := cell_below bw_t_30 kt_0_1__12
      have kt_0_2__28 := cell_below bw_t_30 kt_0_2__13
      have kt_0_3__29 := cell_below bw_t_30 kt_0_3__14
      have kt_0_4__30 := cell_below bw_t_30 kt_0_4__15
      have kr_13_0__31 := cell_below bw_t_30 kr_13_0
      have kr_13_1__32 := cell_below bw_t_30 kr_13_1
      have kr_13_2__33 := cell_below bw_t_30 kr_13_2
      have kr_13_3__34 := cell_below bw_t_30 kr_13_3
      have kr_13_4__35 := cell_below bw_t_30 kr_13_4
      replace Ot_6 := Lib.hid (own_below Ot_6.out bw_t_30)
      replace Ot_10 := Lib.hid (own_below Ot_10.out bw_t_30)
      replace Kt_16 := Lib.hid (Go.Proofs.YtlljmgphgmklcaaDoor.GoC.cur_below Kt_16.out bw_t_30)
      replace Ot_0 := Lib.hid (own_below Ot_0.out bw_t_30)
      replace Or_13 := Lib.hid (own_below Or_13.out bw_t_30)
      clear bw_t_30
      replace H := bind2_hid H
      obtain ⟨t_31, t_31_tp, qt_31, H⟩ := H
      go_wp2_with fail
      clear kt_0_0__11 kt_0_1__12 kt_0_2__13 kt_0_3__14 kt_0_4__15 kr_13_0 kr_13_1 kr_13_2 kr_13_3 kr_13_4
      have hc_ := nt_30.out
      have hv_ : (Value.slice (some ⟨wt_16.heap.size, 0, none⟩) 2 2 : Value) = Value.slice (some ⟨wt_16.heap.size, 0, none⟩) t_30.length 2 := by rw [hc_]
      try rw [hv_]
      replace Ot_30 := Lib.hid (own_len hc_ Ot_30.out)
      clear hc_ hv_
      go_wp2_with fail
      go_at_call 23
      refine (Go.Proofs.YtlljmgphgmklcaaDoor.GsL1CurAmong.C (t_16_tp) (t_30) (some ⟨wt_16.heap.size, 0, none⟩) 2 (g0) (Ac0) (cc0) (bc0) _   (Lib.hid (own_cells Ot_30.out)) (Lib.hid (own_max Ot_30.out)) Kt_16 (Lib.hid (fun _ => Dt_30_c0.out)) qt_31).mono ?_
      rintro e_t_31 wt_31 ⟨rfl, kt_31, gt_31⟩
      have Kt_31 := Lib.hid kt_31
      have Gt_31 : Hid (w_t_30.grownBy wt_31 (Value.slice (some ⟨g0, 0, none⟩) 1 1).ownBlock) := Lib.hid gt_31
      clear kt_31 gt_31
      have HBwt_31 := Lib.hid (Aid.grown_tr HBw_t_30.out Gt_31.out)
      replace kt_0_0__26 := cell_other kt_0_0__26 Gt_31.out (Apart.symm Dt_0_c0.out)
      replace kt_0_1__27 := cell_other kt_0_1__27 Gt_31.out (Apart.symm Dt_0_c0.out)
      replace kt_0_2__28 := cell_other kt_0_2__28 Gt_31.out (Apart.symm Dt_0_c0.out)
      replace kt_0_3__29 := cell_other kt_0_3__29 Gt_31.out (Apart.symm Dt_0_c0.out)
      replace kt_0_4__30 := cell_other kt_0_4__30 Gt_31.out (Apart.symm Dt_0_c0.out)
      replace kr_13_0__31 := cell_other kr_13_0__31 Gt_31.out (Apart.symm Dr_13_c0.out)
      replace kr_13_1__32 := cell_other kr_13_1__32 Gt_31.out (Apart.symm Dr_13_c0.out)
      replace kr_13_2__33 := cell_other kr_13_2__33 Gt_31.out (Apart.symm Dr_13_c0.out)
      replace kr_13_3__34 := cell_other kr_13_3__34 Gt_31.out (Apart.symm Dr_13_c0.out)
      replace kr_13_4__35 := cell_other kr_13_4__35 Gt_31.out (Apart.symm Dr_13_c0.out)
      replace Ot_0 := Lib.hid (own_other Ot_0.out Gt_31.out (Apart.symm Dt_0_c0.out))
      replace Or_13 := Lib.hid (own_other Or_13.out Gt_31.out (Apart.symm Dr_13_c0.out))
      replace Ot_6 := Lib.hid (own_other Ot_6.out Gt_31.out (Apart.symm Dt_6_c0.out))
      replace Ot_10 := Lib.hid (own_other Ot_10.out Gt_31.out (Apart.symm Dt_10_c0.out))
      replace Ot_30 := Lib.hid (own_other Ot_30.out Gt_31.out (Apart.symm Dt_30_c0.out))
      clear Kt_16 Gt_31
      obtain ⟨wb33_33, hwb33_33⟩ : ∃ x, (wt_31).setCell ⟨wt_11.heap.size, 4, none⟩ (.int .i64 t_31) = x := ⟨_, rfl⟩
      have z0b33_33 := Or_13.out.frozenAt 4
      have Sb33_33 := Lib.hid (own_stores [(4, .int .i64 t_31)] Or_13.out)
      have Pb33_33 : Hid (wb33_33.ownsRow w.heap.size 38 5 (.slice (some ⟨wt_11.heap.size, 0, none⟩) 1 1) 1 [.int .i64 zone, .int .i64 grams, .int .i64 from_3, .int .i64 t_8, .int .i64 t_31]) := Lib.hid (by rw [← hwb33_33]; exact Sb33_33.out.1)
      have Gb33_33 : Hid (wt_31.grownBy wb33_33 (Value.slice (some ⟨wt_11.heap.size, 0, none⟩) 1 1).ownBlock) := Lib.hid (by rw [← hwb33_33]; exact Sb33_33.out.2)
      have HBwb33_33 := Lib.hid (Go.Proofs.YtlljmgphgmklcaaDoor.GoC.grown_new HBwt_31.out Gb33_33.out (Go.Proofs.YtlljmgphgmklcaaDoor.GoC.own_ge Or_13.out))
      clear Sb33_33
      have kt_0_0__36 := cell_other kt_0_0__26 Gb33_33.out Dr_13_t_0.out
      have kt_0_1__37 := cell_other kt_0_1__27 Gb33_33.out Dr_13_t_0.out
      have kt_0_2__38 := cell_other kt_0_2__28 Gb33_33.out Dr_13_t_0.out
      have kt_0_3__39 := cell_other kt_0_3__29 Gb33_33.out Dr_13_t_0.out
      have kt_0_4__40 := cell_other kt_0_4__30 Gb33_33.out Dr_13_t_0.out
      replace Ot_0 := Lib.hid (own_other Ot_0.out Gb33_33.out Dr_13_t_0.out)
      replace Ot_6 := Lib.hid (own_other Ot_6.out Gb33_33.out Dr_13_t_6.out)
      replace Ot_10 := Lib.hid (own_other Ot_10.out Gb33_33.out Dr_13_t_10.out)
      replace Ot_30 := Lib.hid (own_other Ot_30.out Gb33_33.out (Apart.symm Dt_30_r_13.out))
      replace Kt_31 := Lib.hid (Go.Proofs.YtlljmgphgmklcaaDoor.GoC.cur_otherO Kt_31.out Gb33_33.out Dr_13_c0.out L0 Or_13.out)
      clear Or_13 Gb33_33
      have kr_13_0__41 : wb33_33.cell? ⟨wt_11.heap.size, 0, none⟩ = some (.int .i64 zone) := Pb33_33.out.cells rfl 0 _ rfl
      have kr_13_1__42 : wb33_33.cell? ⟨wt_11.heap.size, 1, none⟩ = some (.int .i64 grams) := Pb33_33.out.cells rfl 1 _ rfl
      have kr_13_2__43 : wb33_33.cell? ⟨wt_11.heap.size, 2, none⟩ = some (.int .i64 from_3) := Pb33_33.out.cells rfl 2 _ rfl
      have kr_13_3__44 : wb33_33.cell? ⟨wt_11.heap.size, 3, none⟩ = some (.int .i64 t_8) := Pb33_33.out.cells rfl 3 _ rfl
      have kr_13_4__45 : wb33_33.cell? ⟨wt_11.heap.size, 4, none⟩ = some (.int .i64 t_31) := Pb33_33.out.cells rfl 4 _ rfl
      obtain ⟨wb35_35, hwb35_35⟩ : ∃ x, (((((wb33_33).setCell ⟨w.heap.size, 0, none⟩ (.int .i64 zone)).setCell ⟨w.heap.size, 1, none⟩ (.int .i64 grams)).setCell ⟨w.heap.size, 2, none⟩ (.int .i64 from_3)).setCell ⟨w.heap.size, 3, none⟩ (.int .i64 t_8)).setCell ⟨w.heap.size, 4, none⟩ (.int .i64 t_31) = x := ⟨_, rfl⟩
      have z0b35_35 := Ot_0.out.frozenAt 0
      have z1b35_35 := Ot_0.out.frozenAt 1
      have z2b35_35 := Ot_0.out.frozenAt 2
      have z3b35_35 := Ot_0.out.frozenAt 3
      have z4b35_35 := Ot_0.out.frozenAt 4
      have Sb35_35 := Lib.hid (own_stores [(0, .int .i64 zone), (1, .int .i64 grams), (2, .int .i64 from_3), (3, .int .i64 t_8), (4, .int .i64 t_31)] Ot_0.out)
      have Pb35_35 : Hid (wb35_35.ownsRow w.heap.size 38 5 (.slice (some ⟨w.heap.size, 0, none⟩) 1 1) 1 [.int .i64 zone, .int .i64 grams, .int .i64 from_3, .int .i64 t_8, .int .i64 t_31]) := Lib.hid (by rw [← hwb35_35]; exact Sb35_35.out.1)
      have Gb35_35 : Hid (wb33_33.grownBy wb35_35 (Value.slice (some ⟨w.heap.size, 0, none⟩) 1 1).ownBlock) := Lib.hid (by rw [← hwb35_35]; exact Sb35_35.out.2)
      have HBwb35_35 := Lib.hid (Go.Proofs.YtlljmgphgmklcaaDoor.GoC.grown_new HBwb33_33.out Gb35_35.out (Go.Proofs.YtlljmgphgmklcaaDoor.GoC.own_ge Ot_0.out))
      clear Sb35_35
      have kr_13_0__46 := cell_other kr_13_0__41 Gb35_35.out (Apart.symm Dr_13_t_0.out)
      have kr_13_1__47 := cell_other kr_13_1__42 Gb35_35.out (Apart.symm Dr_13_t_0.out)
      have kr_13_2__48 := cell_other kr_13_2__43 Gb35_35.out (Apart.symm Dr_13_t_0.out)
      have kr_13_3__49 := cell_other kr_13_3__44 Gb35_35.out (Apart.symm Dr_13_t_0.out)
      have kr_13_4__50 := cell_other kr_13_4__45 Gb35_35.out (Apart.symm Dr_13_t_0.out)
      replace Pb33_33 := Lib.hid (own_other Pb33_33.out Gb35_35.out (Apart.symm Dr_13_t_0.out))
      replace Ot_6 := Lib.hid (own_other Ot_6.out Gb35_35.out (Apart.symm Dt_6_t_0.out))
      replace Ot_10 := Lib.hid (own_other Ot_10.out Gb35_35.out (Apart.symm Dt_10_t_0.out))
      replace Ot_30 := Lib.hid (own_other Ot_30.out Gb35_35.out (Apart.symm Dt_30_t_0.out))
      replace Kt_31 := Lib.hid (Go.Proofs.YtlljmgphgmklcaaDoor.GoC.cur_otherO Kt_31.out Gb35_35.out Dt_0_c0.out L0 Ot_0.out)
      clear Ot_0 Gb35_35
      have kt_0_0__51 : wb35_35.cell? ⟨w.heap.size, 0, none⟩ = some (.int .i64 zone) := Pb35_35.out.cells rfl 0 _ rfl
      have kt_0_1__52 : wb35_35.cell? ⟨w.heap.size, 1, none⟩ = some (.int .i64 grams) := Pb35_35.out.cells rfl 1 _ rfl
      have kt_0_2__53 : wb35_35.cell? ⟨w.heap.size, 2, none⟩ = some (.int .i64 from_3) := Pb35_35.out.cells rfl 2 _ rfl
      have kt_0_3__54 : wb35_35.cell? ⟨w.heap.size, 3, none⟩ = some (.int .i64 t_8) := Pb35_35.out.cells rfl 3 _ rfl
      have kt_0_4__55 : wb35_35.cell? ⟨w.heap.size, 4, none⟩ = some (.int .i64 t_31) := Pb35_35.out.cells rfl 4 _ rfl
      cases ret_hid H
      go_wp2_with fail
      (try simp only [Exit.inBlock, Exit.then])
      refine bodyPost_ret (v := .agg #[.int .i64 zone, .int .i64 grams, .int .i64 from_3, .int .i64 t_8, .int .i64 t_31]) ?hr_ ?hd_ ?_
      case hd_ => rfl
      case hr_ => simp [results, Tryd.results44, kt_0_0__51, kt_0_1__52, kt_0_2__53, kt_0_3__54, kt_0_4__55, go_sem]
      exact ⟨rfl, Kt_31.out, HBwb35_35.out⟩
  | true =>
    replace H := ite_t H
    replace H := let_hid H
    obtain ⟨t_22, ht_22, H⟩ := H
    replace H := let_hid H
    obtain ⟨t_23, ht_23, H⟩ := H
    obtain ⟨w_t_23, hw_t_23⟩ : ∃ x, wt_16.alloc (.cells #[.int .i64 t_22, .int .i64 4000, .int .i64 4001] 3) = x := ⟨_, rfl⟩
    have bw_t_23 : Below wt_16.heap.size wt_16 w_t_23 := by rw [← hw_t_23]; exact (Below.refl _ _).alloc (Nat.le_refl _) _
    have hs_t_23 := HBwt_16.out.size
    have nt_23 : t_23.length = 3 := by rw [← ht_23]; rfl
    have Ot_23 : Hid (w_t_23.ownsRow w.heap.size 3 1 (.slice (some ⟨wt_16.heap.size, 0, none⟩) 3 3) 3 (Go.Proofs.YtlljmgphgmklcaaDoor.HelpInt.iv t_23)) := by
      rw [← hw_t_23, ← ht_23]
      have e_ : ([.int .i64 t_22, .int .i64 4000, .int .i64 4001] : List Value) = (Go.Proofs.YtlljmgphgmklcaaDoor.HelpInt.iv ([t_22, 4000, 4001] : List Int)) := rfl
      exact Lib.hid (own_laid (n := 3) hs_t_23 e_ rfl (by unfold maxLen; omega))
    clear hs_t_23
    have hht_23 := Lib.hid ht_23
    clear ht_23
    replace nt_23 := Lib.hid nt_23
    have Dt_23_t_6 := Lib.hid (apart_fresh Ot_6.out)
    have Dt_23_t_10 := Lib.hid (apart_fresh Ot_10.out)
    have Dt_23_c0 := Lib.hid (Go.Proofs.YtlljmgphgmklcaaDoor.GoC.apart_cur Kt_16.out)
    have Dt_23_t_0 := Lib.hid (apart_box kt_0_0__11)
    have Dt_23_r_13 := Lib.hid (apart_box kr_13_0)
    have HBw_t_23 := Lib.hid (grown_below HBwt_16.out bw_t_23)
    have kt_0_0__56 := cell_below bw_t_23 kt_0_0__11
    have kt_0_1__57 := cell_below bw_t_23 kt_0_1__12
    have kt_0_2__58 := cell_below bw_t_23 kt_0_2__13
    have kt_0_3__59 := cell_below bw_t_23 kt_0_3__14
    have kt_0_4__60 := cell_below bw_t_23 kt_0_4__15
    have kr_13_0__61 := cell_below bw_t_23 kr_13_0
    have kr_13_1__62 := cell_below bw_t_23 kr_13_1
    have kr_13_2__63 := cell_below bw_t_23 kr_13_2
    have kr_13_3__64 := cell_below bw_t_23 kr_13_3
    have kr_13_4__65 := cell_below bw_t_23 kr_13_4
    replace Ot_6 := Lib.hid (own_below Ot_6.out bw_t_23)
    replace Ot_10 := Lib.hid (own_below Ot_10.out bw_t_23)
    replace Kt_16 := Lib.hid (Go.Proofs.YtlljmgphgmklcaaDoor.GoC.cur_below Kt_16.out bw_t_23)
    replace Ot_0 := Lib.hid (own_below Ot_0.out bw_t_23)
    replace Or_13 := Lib.hid (own_below Or_13.out bw_t_23)
    clear bw_t_23
    replace H := bind2_hid H
    obtain ⟨t_24, t_24_tp, qt_24, H⟩ := H
    go_wp2_with fail
    clear kt_0_0__11 kt_0_1__12 kt_0_2__13 kt_0_3__14 kt_0_4__15 kr_13_0 kr_13_1 kr_13_2 kr_13_3 kr_13_4
    have hc_ := nt_23.out
    have hv_ : (Value.slice (some ⟨wt_16.heap.size, 0, none⟩) 3 3 : Value) = Value.slice (some ⟨wt_16.heap.size, 0, none⟩) t_23.length 3 := by rw [hc_]
    try rw [hv_]
    replace Ot_23 := Lib.hid (own_len hc_ Ot_23.out)
    clear hc_ hv_
    go_wp2_with fail
    go_at_call 23
    refine (Go.Proofs.YtlljmgphgmklcaaDoor.GsL1CurAmong.C (t_16_tp) (t_23) (some ⟨wt_16.heap.size, 0, none⟩) 3 (g0) (Ac0) (cc0) (bc0) _   (Lib.hid (own_cells Ot_23.out)) (Lib.hid (own_max Ot_23.out)) Kt_16 (Lib.hid (fun _ => Dt_23_c0.out)) qt_24).mono ?_
    rintro e_t_24 wt_24 ⟨rfl, kt_24, gt_24⟩
    have Kt_24 := Lib.hid kt_24
    have Gt_24 : Hid (w_t_23.grownBy wt_24 (Value.slice (some ⟨g0, 0, none⟩) 1 1).ownBlock) := Lib.hid gt_24
    clear kt_24 gt_24
    have HBwt_24 := Lib.hid (Aid.grown_tr HBw_t_23.out Gt_24.out)
    replace kt_0_0__56 := cell_other kt_0_0__56 Gt_24.out (Apart.symm Dt_0_c0.out)
    replace kt_0_1__57 := cell_other kt_0_1__57 Gt_24.out (Apart.symm Dt_0_c0.out)
    replace kt_0_2__58 := cell_other kt_0_2__58 Gt_24.out (Apart.symm Dt_0_c0.out)
    replace kt_0_3__59 := cell_other kt_0_3__59 Gt_24.out (Apart.symm Dt_0_c0.out)
    replace kt_0_4__60 := cell_other kt_0_4__60 Gt_24.out (Apart.symm Dt_0_c0.out)
    replace kr_13_0__61 := cell_other kr_13_0__61 Gt_24.out (Apart.symm Dr_13_c0.out)
    replace kr_13_1__62 := cell_other kr_13_1__62 Gt_24.out (Apart.symm Dr_13_c0.out)
    replace kr_13_2__63 := cell_other kr_13_2__63 Gt_24.out (Apart.symm Dr_13_c0.out)
    replace kr_13_3__64 := cell_other kr_13_3__64 Gt_24.out (Apart.symm Dr_13_c0.out)
    replace kr_13_4__65 := cell_other kr_13_4__65 Gt_24.out (Apart.symm Dr_13_c0.out)
    replace Ot_0 := Lib.hid (own_other Ot_0.out Gt_24.out (Apart.symm Dt_0_c0.out))
    replace Or_13 := Lib.hid (own_other Or_13.out Gt_24.out (Apart.symm Dr_13_c0.out))
    replace Ot_6 := Lib.hid (own_other Ot_6.out Gt_24.out (Apart.symm Dt_6_c0.out))
    replace Ot_10 := Lib.hid (own_other Ot_10.out Gt_24.out (Apart.symm Dt_10_c0.out))
    replace Ot_23 := Lib.hid (own_other Ot_23.out Gt_24.out (Apart.symm Dt_23_c0.out))
    clear Kt_16 Gt_24
    obtain ⟨wb26_26, hwb26_26⟩ : ∃ x, (wt_24).setCell ⟨wt_11.heap.size, 3, none⟩ (.int .i64 t_24) = x := ⟨_, rfl⟩
    have z0b26_26 := Or_13.out.frozenAt 3
    have Sb26_26 := Lib.hid (own_stores [(3, .int .i64 t_24)] Or_13.out)
    have Pb26_26 : Hid (wb26_26.ownsRow w.heap.size 38 5 (.slice (some ⟨wt_11.heap.size, 0, none⟩) 1 1) 1 [.int .i64 zone, .int .i64 grams, .int .i64 from_3, .int .i64 t_24, .int .i64 t_11]) := Lib.hid (by rw [← hwb26_26]; exact Sb26_26.out.1)
    have Gb26_26 : Hid (wt_24.grownBy wb26_26 (Value.slice (some ⟨wt_11.heap.size, 0, none⟩) 1 1).ownBlock) := Lib.hid (by rw [← hwb26_26]; exact Sb26_26.out.2)
    have HBwb26_26 := Lib.hid (Go.Proofs.YtlljmgphgmklcaaDoor.GoC.grown_new HBwt_24.out Gb26_26.out (Go.Proofs.YtlljmgphgmklcaaDoor.GoC.own_ge Or_13.out))
    clear Sb26_26
    have kt_0_0__66 := cell_other kt_0_0__56 Gb26_26.out Dr_13_t_0.out
    have kt_0_1__67 := cell_other kt_0_1__57 Gb26_26.out Dr_13_t_0.out
    have kt_0_2__68 := cell_other kt_0_2__58 Gb26_26.out Dr_13_t_0.out
    have kt_0_3__69 := cell_other kt_0_3__59 Gb26_26.out Dr_13_t_0.out
    have kt_0_4__70 := cell_other kt_0_4__60 Gb26_26.out Dr_13_t_0.out
    replace Ot_0 := Lib.hid (own_other Ot_0.out Gb26_26.out Dr_13_t_0.out)
    replace Ot_6 := Lib.hid (own_other Ot_6.out Gb26_26.out Dr_13_t_6.out)
    replace Ot_10 := Lib.hid (own_other Ot_10.out Gb26_26.out Dr_13_t_10.out)
    replace Ot_23 := Lib.hid (own_other Ot_23.out Gb26_26.out (Apart.symm Dt_23_r_13.out))
    replace Kt_24 := Lib.hid (Go.Proofs.YtlljmgphgmklcaaDoor.GoC.cur_otherO Kt_24.out Gb26_26.out Dr_13_c0.out L0 Or_13.out)
    clear Or_13 Gb26_26
    have kr_13_0__71 : wb26_26.cell? ⟨wt_11.heap.size, 0, none⟩ = some (.int .i64 zone) := Pb26_26.out.cells rfl 0 _ rfl
    have kr_13_1__72 : wb26_26.cell? ⟨wt_11.heap.size, 1, none⟩ = some (.int .i64 grams) := Pb26_26.out.cells rfl 1 _ rfl
    have kr_13_2__73 : wb26_26.cell? ⟨wt_11.heap.size, 2, none⟩ = some (.int .i64 from_3) := Pb26_26.out.cells rfl 2 _ rfl
    have kr_13_3__74 : wb26_26.cell? ⟨wt_11.heap.size, 3, none⟩ = some (.int .i64 t_24) := Pb26_26.out.cells rfl 3 _ rfl
    have kr_13_4__75 : wb26_26.cell? ⟨wt_11.heap.size, 4, none⟩ = some (.int .i64 t_11) := Pb26_26.out.cells rfl 4 _ rfl
    obtain ⟨wb35_35, hwb35_35⟩ : ∃ x, (((((wb26_26).setCell ⟨w.heap.size, 0, none⟩ (.int .i64 zone)).setCell ⟨w.heap.size, 1, none⟩ (.int .i64 grams)).setCell ⟨w.heap.size, 2, none⟩ (.int .i64 from_3)).setCell ⟨w.heap.size, 3, none⟩ (.int .i64 t_24)).setCell ⟨w.heap.size, 4, none⟩ (.int .i64 t_11) = x := ⟨_, rfl⟩
    have z0b35_35 := Ot_0.out.frozenAt 0
    have z1b35_35 := Ot_0.out.frozenAt 1
    have z2b35_35 := Ot_0.out.frozenAt 2
    have z3b35_35 := Ot_0.out.frozenAt 3
    have z4b35_35 := Ot_0.out.frozenAt 4
    have Sb35_35 := Lib.hid (own_stores [(0, .int .i64 zone), (1, .int .i64 grams), (2, .int .i64 from_3), (3, .int .i64 t_24), (4, .int .i64 t_11)] Ot_0.out)
    have Pb35_35 : Hid (wb35_35.ownsRow w.heap.size 38 5 (.slice (some ⟨w.heap.size, 0, none⟩) 1 1) 1 [.int .i64 zone, .int .i64 grams, .int .i64 from_3, .int .i64 t_24, .int .i64 t_11]) := Lib.hid (by rw [← hwb35_35]; exact Sb35_35.out.1)
    have Gb35_35 : Hid (wb26_26.grownBy wb35_35 (Value.slice (some ⟨w.heap.size, 0, none⟩) 1 1).ownBlock) := Lib.hid (by rw [← hwb35_35]; exact Sb35_35.out.2)
    have HBwb35_35 := Lib.hid (Go.Proofs.YtlljmgphgmklcaaDoor.GoC.grown_new HBwb26_26.out Gb35_35.out (Go.Proofs.YtlljmgphgmklcaaDoor.GoC.own_ge Ot_0.out))
    clear Sb35_35
    have kr_13_0__76 := cell_other kr_13_0__71 Gb35_35.out (Apart.symm Dr_13_t_0.out)
    have kr_13_1__77 := cell_other kr_13_1__72 Gb35_35.out (Apart.symm Dr_13_t_0.out)
    have kr_13_2__78 := cell_other kr_13_2__73 Gb35_35.out (Apart.symm Dr_13_t_0.out)
    have kr_13_3__79 := cell_other kr_13_3__74 Gb35_35.out (Apart.symm Dr_13_t_0.out)
    have kr_13_4__80 := cell_other kr_13_4__75 Gb35_35.out (Apart.symm Dr_13_t_0.out)
    replace Pb26_26 := Lib.hid (own_other Pb26_26.out Gb35_35.out (Apart.symm Dr_13_t_0.out))
    replace Ot_6 := Lib.hid (own_other Ot_6.out Gb35_35.out (Apart.symm Dt_6_t_0.out))
    replace Ot_10 := Lib.hid (own_other Ot_10.out Gb35_35.out (Apart.symm Dt_10_t_0.out))
    replace Ot_23 := Lib.hid (own_other Ot_23.out Gb35_35.out (Apart.symm Dt_23_t_0.out))
    replace Kt_24 := Lib.hid (Go.Proofs.YtlljmgphgmklcaaDoor.GoC.cur_otherO Kt_24.out Gb35_35.out Dt_0_c0.out L0 Ot_0.out)
    clear Ot_0 Gb35_35
    have kt_0_0__81 : wb35_35.cell? ⟨w.heap.size, 0, none⟩ = some (.int .i64 zone) := Pb35_35.out.cells rfl 0 _ rfl
    have kt_0_1__82 : wb35_35.cell? ⟨w.heap.size, 1, none⟩ = some (.int .i64 grams) := Pb35_35.out.cells rfl 1 _ rfl
    have kt_0_2__83 : wb35_35.cell? ⟨w.heap.size, 2, none⟩ = some (.int .i64 from_3) := Pb35_35.out.cells rfl 2 _ rfl
    have kt_0_3__84 : wb35_35.cell? ⟨w.heap.size, 3, none⟩ = some (.int .i64 t_24) := Pb35_35.out.cells rfl 3 _ rfl
    have kt_0_4__85 : wb35_35.cell? ⟨w.heap.size, 4, none⟩ = some (.int .i64 t_11) := Pb35_35.out.cells rfl 4 _ rfl
    cases ret_hid H
    go_wp2_with fail
    (try simp only [Exit.inBlock, Exit.then])
    refine bodyPost_ret (v := .agg #[.int .i64 zone, .int .i64 grams, .int .i64 from_3, .int .i64 t_24, .int .i64 t_11]) ?hr_ ?hd_ ?_
    case hd_ => rfl
    case hr_ => simp [results, Tryd.results44, kt_0_0__81, kt_0_1__82, kt_0_2__83, kt_0_3__84, kt_0_4__85, go_sem]
    exact ⟨rfl, Kt_24.out, HBwb35_35.out⟩
end Go.Proofs.YtlljmgphgmklcaaDoor.GsL1CurRate

