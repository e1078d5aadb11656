/- The texts on which the proof of FnCombs stands, one behind the other (2 of 5). No condition of their own. -/
import Derived.Test.YtpcdaoeijlifmaaDoorChecked
import Derived.Test.YtpcdaoeijlifmaaDoorFnCombsP1
import Derived.WalkKit
import Derived.Lib.Hide
import Derived.WalkSpells
import Derived.BigQuiet
import Derived.Deep.QuietTactic
import Derived.Laws.AppendOwn
import Derived.IntWalk
import Derived.Laws.Bits64
import Derived.Outline
import Derived.Lib.SliceRun
import Derived.Lib.LaidU8
import Derived.OwnWalk
import Derived.Lib.SmallJoins
import Derived.Deep.Slices
import Derived.Deep.Fields
import Derived.ChangeSame
import Derived.WalkLawsBesides
import Derived.Deep.LoopGhost
import Derived.Lib.QuietBelow
/- The drawing cursor as a tape of numbers from 0 to 255: what it is in memory, and the contract of its method next. Conditions: its bytes read as bytes, and it has been asked fewer than 2^62 times. -/
namespace Go.Proofs.YtpcdaoeijlifmaaDoor.GoC
set_option linter.unusedVariables false
open Go.RowKit
open Go.Proofs.YtpcdaoeijlifmaaDoor.Rowed Go.Proofs.YtpcdaoeijlifmaaDoor.Turn Go.Proofs.YtpcdaoeijlifmaaDoor.GoM

/-- what a cursor will give, and how often it may be asked -/
structure Tape where
  vals : Nat → Int
  left : Nat
def Tape.tail (t : Tape) : Tape := ⟨fun i => t.vals (i + 1), t.left - 1⟩
def u8s (l : List Int) : List Value := l.map (fun z => Value.int .u8 z)
theorem u8s_len (l : List Int) : (u8s l).length = l.length := by simp [u8s]
theorem u8s_at (l : List Int) (k : Nat) : (u8s l)[k]? = (l[k]?).map (Value.int .u8) := by simp [u8s]
/-- the cell block of a cursor over the bytes 'A, c' -/
def At (w : World) (b g : Nat) (A : Option Addr) (c : Nat) (code : List Int) (k : Nat) (seed : Int) : Prop :=
  b ≤ g ∧ w.heap[g]? = some (.cells #[.slice A code.length c, .int .i64 k, .int .u64 seed] 78 (0, 0)) ∧ Cells w 1 A code.length (u8s code) ∧ (∀ a, A = some a → 0 < code.length → a.block < b)
/-- asked there, the cursor gives x, and its seed is then s -/
def Step (code : List Int) (k : Nat) (seed x s : Int) : Prop :=
  (0 ≤ x ∧ x ≤ 255) ∧ ∀ w b g A c, At w b g A c code k seed → Calls Tryd.prog 89 #[.pointer (some ⟨g, 0, none⟩)] w (fun e w' => e = .returned (.int .i64 x) ∧ At w' b g A c code (k + 1) s ∧ w.grownBy w' (some g))
def Emits (code : List Int) (k : Nat) (seed : Int) (t : Tape) : Prop :=
  k + t.left ≤ 4611686018427387904 ∧ ∃ seeds : Nat → Int, seeds 0 = seed ∧ ∀ i, i < t.left → Step code (k + i) (seeds i) (t.vals i) (seeds (i + 1))
/-- block g is a cursor that will give t -/
def CurIs (w : World) (b g : Nat) (A : Option Addr) (c : Nat) (t : Tape) : Prop := ∃ code k seed, At w b g A c code k seed ∧ Emits code k seed t

theorem cells3 {w : World} {g : Nat} {t : TypeId} {x y z : Value} (h : w.heap[g]? = some (.cells #[x, y, z] t (0, 0))) :
    w.cell? ⟨g, 0, none⟩ = some x ∧ w.cell? ⟨g, 1, none⟩ = some y ∧ w.cell? ⟨g, 2, none⟩ = some z ∧ (∀ i, w.frozen? ⟨g, i, none⟩ = false) :=
  ⟨by simp [World.cell?, h], by simp [World.cell?, h], by simp [World.cell?, h], fun i => by simp [World.frozen?, h]⟩
theorem stored {w W2 : World} {g n1 : Nat} {t : TypeId} {x y z u v : Value} (hb : w.heap[g]? = some (.cells #[x, y, z] t (0, 0)))
    (hW : ((w.drewN n1).setCell ⟨g, 1, none⟩ u).setCell ⟨g, 2, none⟩ v = W2) : W2.heap[g]? = some (.cells #[x, u, v] t (0, 0)) ∧ w.grownBy W2 (some g) := by
  subst hW
  refine ⟨by simp [World.setCell, Array.getElem?_modify, hb], ⟨rfl, rfl, rfl, by simp [World.setCell], fun k _ hk => ?_⟩⟩
  have hne : k ≠ g := fun e => hk (by rw [e])
  rw [Below.heap_setCell _ _ _ _ hne, Below.heap_setCell _ _ _ _ hne]
  rfl
theorem grown_drewN {w w' : World} {r : Option Nat} (h : w.grownBy w' r) (n : Nat) : w.grownBy (w'.drewN n) r := ⟨h.os, h.tape, h.output, h.size, h.block⟩
theorem add_block (a : Addr) (n : Nat) : (a.add n).block = a.block := by unfold Addr.add; split <;> rfl
theorem cells_kept {w w' : World} {K g n : Nat} {A : Option Addr} {xs : List Value} (h : Cells w K A n xs) (hg : w.grownBy w' (some g)) (hA : ∀ a, A = some a → 0 < xs.length → a.block ≠ g) : Cells w' K A n xs := by
  refine ⟨h.1, fun h0 => ?_⟩
  obtain ⟨ad, e, hc⟩ := h.2 h0
  refine ⟨ad, e, fun j u hu => ?_⟩
  have h1 := hc j u hu
  have hlt := cell_lt h1
  rw [World.cell?_of_block (w := w) (w' := w') (hg.block _ hlt (by rw [add_block]; intro e2; injection e2 with e3; exact hA ad e h0 e3))]
  exact h1
theorem and255 (y : Int) : 0 ≤ wrap64 (bits .and .u64 y 255) ∧ wrap64 (bits .and .u64 y 255) ≤ 255 := by
  have h : 0 ≤ bits .and .u64 y 255 ∧ bits .and .u64 y 255 ≤ 255 := by
    have h1 : (BitVec.ofInt 64 y &&& BitVec.ofInt 64 255).toNat ≤ 255 := by
      rw [BitVec.toNat_and]
      exact Nat.le_trans Nat.and_le_right (by decide)
    show 0 ≤ IntKind.u64.wrap ((BitVec.ofInt 64 y &&& BitVec.ofInt 64 255).toNat : Int) ∧ IntKind.u64.wrap ((BitVec.ofInt 64 y &&& BitVec.ofInt 64 255).toNat : Int) ≤ 255
    rw [IntKind.wrap_u64]
    omega
  rw [IntWalk.wrap64_in _ ⟨by omega, by omega⟩]
  exact h

set_option maxHeartbeats 1000000 in
theorem step_any (code : List Int) (hb : ∀ z ∈ code, 0 ≤ z ∧ z ≤ 255) (hn : code.length ≤ 9223372036854775807) (k : Nat) (seed : Int) (hm : k < 4611686018427387904) : ∃ x s, Step code k seed x s := by
  by_cases hlt : k < code.length
  · obtain ⟨z, hzz⟩ : ∃ z, code[k]? = some z := ⟨code[k], List.getElem?_eq_getElem hlt⟩
    have hz := hb z (List.mem_of_getElem? hzz)
    refine ⟨z, IntKind.u64.wrap (IntKind.u64.wrap (IntKind.u64.wrap (seed * 6364136223846793005) + z) + 381907), ⟨?h0, ?h1⟩, fun w b g A c h => ?walk⟩
    case walk =>
      obtain ⟨hbg, hb, hcs, hA⟩ := h
      obtain ⟨ad, rfl, hc⟩ := hcs.2 (by unfold u8s; rw [List.length_map]; omega)
      have hcell := hc k _ (by unfold u8s; rw [List.getElem?_map, hzz]; rfl)
      obtain ⟨c0, c1, c2, hf⟩ := cells3 hb
      have f1 := hf 1
      have f2 := hf 2
      have HB := Lib.hid hb
      have HK := Lib.hid hcs
      have b1 : 0 ≤ (k : Int) := by omega
      have b2 : (k : Int) < code.length := by omega
      clear hb hf hc hcs
      have HA := Lib.hid hA
      clear hA
      go_enter Tryd.func89, Tryd.ntmps89
      go_wp2_with fail
      go_quiet (fail)
      go_wp2_with fail
      go_quiet (fail)
      go_wp2_with fail
      generalize hW2 : (World.setCell (World.setCell (World.drewN w _) ⟨g, 1, none⟩ _) ⟨g, 2, none⟩ _) = W2
      obtain ⟨hb2, hg2⟩ := stored HB.out hW2
      obtain ⟨d0, d1, d2, df⟩ := cells3 hb2
      have HB2 := Lib.hid hb2
      have HG2 := Lib.hid hg2
      clear hb2 hg2 df hW2 HB c0 c1 c2 f1 f2
      go_quiet (fail)
      go_wp2_with fail
      go_ret
      exact ⟨rfl, ⟨hbg, by rw [show ((k + 1 : Nat) : Int) = (k : Int) + 1 by omega]; exact HB2.out, cells_kept HK.out (grown_drewN HG2.out _) (fun a e h0 e2 => by have := HA.out a e (by unfold u8s at h0; rwa [List.length_map] at h0); omega), HA.out⟩, grown_drewN HG2.out _⟩
    case h0 => exact hz.1
    case h1 => exact hz.2
  · refine ⟨wrap64 (bits .and .u64 (IntKind.u64.wrap (IntKind.u64.wrap (IntKind.u64.wrap (seed * 6364136223846793005)) + 381907) / 1099511627776) 255), IntKind.u64.wrap (IntKind.u64.wrap (IntKind.u64.wrap (seed * 6364136223846793005)) + 381907), ⟨?h0, ?h1⟩, fun w b g A c h => ?walk⟩
    case walk =>
      obtain ⟨hbg, hb, hcs, hA⟩ := h
      obtain ⟨c0, c1, c2, hf⟩ := cells3 hb
      have f1 := hf 1
      have f2 := hf 2
      have HB := Lib.hid hb
      have HK := Lib.hid hcs
      have HA := Lib.hid hA
      have b2 : (code.length : Int) ≤ k := by omega
      have b3 : ¬ ((k : Int) + 1 ≤ code.length) := by omega
      clear hb hf hcs hA
      go_enter Tryd.func89, Tryd.ntmps89
      go_wp2_with fail
      go_quiet (fail)
      go_wp2_with fail
      generalize hW2 : (World.setCell (World.setCell (World.drewN w _) ⟨g, 1, none⟩ _) ⟨g, 2, none⟩ _) = W2
      obtain ⟨hb2, hg2⟩ := stored HB.out hW2
      obtain ⟨d0, d1, d2, df⟩ := cells3 hb2
      have HB2 := Lib.hid hb2
      have HG2 := Lib.hid hg2
      clear hb2 hg2 df hW2 HB c0 c1 c2 f1 f2
      go_quiet (fail)
      go_wp2_with fail
      go_ret
      exact ⟨rfl, ⟨hbg, by rw [show ((k + 1 : Nat) : Int) = (k : Int) + 1 by omega]; exact HB2.out, cells_kept HK.out (grown_drewN HG2.out _) (fun a e h0 e2 => by have := HA.out a e (by unfold u8s at h0; rwa [List.length_map] at h0); omega), HA.out⟩, grown_drewN HG2.out _⟩
    case h0 => exact (and255 _).1
    case h1 => exact (and255 _).2
/-- a tape for each row of bytes -/
def Tells (tapes : List Int → Tape) : Prop := (∀ code, (tapes code).left = 4611686018427387904) ∧ (∀ code i, 0 ≤ (tapes code).vals i ∧ (tapes code).vals i ≤ 255) ∧
  ∀ code, (∀ z ∈ code, 0 ≤ z ∧ z ≤ 255) → code.length ≤ 9223372036854775807 → Emits code 0 0 (tapes code)
theorem tells_one (code : List Int) : ∃ t : Tape, t.left = 4611686018427387904 ∧ (∀ i, 0 ≤ t.vals i ∧ t.vals i ≤ 255) ∧ ((∀ z ∈ code, 0 ≤ z ∧ z ≤ 255) → code.length ≤ 9223372036854775807 → Emits code 0 0 t) := by
  by_cases hc : (∀ z ∈ code, 0 ≤ z ∧ z ≤ 255) ∧ code.length ≤ 9223372036854775807
  · have hs : ∀ (k : Nat) (seed : Int), ∃ p : Int × Int, (0 ≤ p.1 ∧ p.1 ≤ 255) ∧ (k < 4611686018427387904 → Step code k seed p.1 p.2) := by
      intro k seed
      by_cases hk : k < 4611686018427387904
      · obtain ⟨x, s, h⟩ := step_any code hc.1 hc.2 k seed hk
        exact ⟨(x, s), h.1, fun _ => h⟩
      · exact ⟨(0, 0), by omega, fun h => absurd h hk⟩
    have ⟨f, hf⟩ : ∃ f : Nat → Int → Int × Int, ∀ k seed, (0 ≤ (f k seed).1 ∧ (f k seed).1 ≤ 255) ∧ (k < 4611686018427387904 → Step code k seed (f k seed).1 (f k seed).2) :=
      ⟨fun k seed => Classical.choose (hs k seed), fun k seed => Classical.choose_spec (hs k seed)⟩
    obtain ⟨seeds, h0, h1⟩ : ∃ seeds : Nat → Int, seeds 0 = 0 ∧ ∀ i, seeds (i + 1) = (f i (seeds i)).2 := ⟨fun n => Nat.rec 0 (fun i s => (f i s).2) n, rfl, fun i => rfl⟩
    refine ⟨⟨fun i => (f i (seeds i)).1, 4611686018427387904⟩, rfl, fun i => (hf i (seeds i)).1, fun _ _ => ⟨by show 0 + 4611686018427387904 ≤ 4611686018427387904; omega, seeds, h0, fun i hi => ?_⟩⟩
    have := (hf i (seeds i)).2 hi
    rw [h1, Nat.zero_add]
    exact this
  · exact ⟨⟨fun _ => 0, 4611686018427387904⟩, rfl, fun _ => ⟨Int.le_refl 0, (by decide : (0 : Int) ≤ 255)⟩, fun h1 h2 => absurd ⟨h1, h2⟩ hc⟩
theorem tells : ∃ tapes, Tells tapes := by
  have ⟨f, hf⟩ : ∃ f : List Int → Tape, ∀ code, (f code).left = 4611686018427387904 ∧ (∀ i, 0 ≤ (f code).vals i ∧ (f code).vals i ≤ 255) ∧ ((∀ z ∈ code, 0 ≤ z ∧ z ≤ 255) → code.length ≤ 9223372036854775807 → Emits code 0 0 (f code)) :=
    ⟨fun code => Classical.choose (tells_one code), fun code => Classical.choose_spec (tells_one code)⟩
  exact ⟨f, fun code => (hf code).1, fun code => (hf code).2.1, fun code => (hf code).2.2⟩

theorem cur_lt {w : World} {b g c : Nat} {A : Option Addr} {t : Tape} (h : CurIs w b g A c t) : b ≤ g ∧ g < w.heap.size := by
  obtain ⟨code, k, seed, ⟨h1, h2, _⟩, _⟩ := h
  refine ⟨h1, ?_⟩
  rcases Nat.lt_or_ge g w.heap.size with hl | hl
  · exact hl
  · rw [Array.getElem?_eq_none hl] at h2; cases h2
theorem cells_lt {w : World} {K n : Nat} {a : Addr} {xs : List Value} (h : Cells w K (some a) n xs) (h0 : 0 < xs.length) : a.block < w.heap.size := by
  obtain ⟨ad, e, hc⟩ := h.2 h0
  obtain rfl := Option.some.inj e
  have := cell_lt (hc 0 xs[0] (List.getElem?_eq_getElem h0))
  rwa [add_block] at this
theorem cur_below {w w' : World} {b g c : Nat} {A : Option Addr} {t : Tape} (h : CurIs w b g A c t) (hb : Below w.heap.size w w') : CurIs w' b g A c t := by
  have hl := cur_lt h
  obtain ⟨code, k, seed, ⟨h1, h2, h3, h4⟩, hE⟩ := h
  exact ⟨code, k, seed, ⟨h1, by rw [hb.block g hl.2]; exact h2, Cells.below h3 hb, h4⟩, hE⟩
/-- another row is written, one that is younger than the bytes -/
theorem cur_other {w w' : World} {b g c n' c' : Nat} {A A' : Option Addr} {t : Tape} (h : CurIs w b g A c t) (hg : w.grownBy w' (Value.slice A' n' c').ownBlock) (hD : Apart A' (some ⟨g, 0, none⟩)) (ho : ∀ a, A' = some a → b ≤ a.block) : CurIs w' b g A c t := by
  have hl := cur_lt h
  obtain ⟨code, k, seed, ⟨h1, h2, h3, h4⟩, hE⟩ := h
  refine ⟨code, k, seed, ⟨h1, ?_, ?_, h4⟩, hE⟩
  · rw [hg.block g hl.2 ?_]
    · exact h2
    · cases A' with
      | none => simp [Value.ownBlock]
      | some x => simp only [Value.ownBlock, ne_eq, Option.some.injEq]; exact fun e => hD x _ rfl rfl e.symm
  · refine ⟨h3.1, fun h0 => ?_⟩
    obtain ⟨ad, e, hc⟩ := h3.2 h0
    refine ⟨ad, e, fun j u hu => ?_⟩
    have h5 := hc j u hu
    have hlt := cell_lt h5
    rw [World.cell?_of_block (w := w) (w' := w') (hg.block _ hlt ?_)]
    · exact h5
    · rw [add_block]
      cases A' with
      | none => simp [Value.ownBlock]
      | some x =>
        simp only [Value.ownBlock, ne_eq, Option.some.injEq]
        intro e2
        have := ho x rfl
        have := h4 ad e (by unfold u8s at h0; rwa [List.length_map] at h0)
        omega
/-- a cursor that is laid now -/
theorem cur_new {w : World} {b c : Nat} {A : Option Addr} {code : List Int} {t : Tape} (hb : b ≤ w.heap.size) (hc : Cells w 1 A code.length (u8s code)) (hA : ∀ a, A = some a → 0 < code.length → a.block < b) (hE : Emits code 0 0 t) :
    CurIs (w.alloc (.cells #[.slice A code.length c, .int .i64 0, .int .u64 0] 78)) b w.heap.size A c t :=
  ⟨code, 0, 0, ⟨hb, heap_alloc_new w _, Cells.below hc ((Below.refl _ _).alloc (Nat.le_refl _) _), hA⟩, hE⟩
theorem grown_new {w wr w2 : World} {r : Option Nat} {n c : Nat} {A : Option Addr} (h : w.grownBy wr r) (hg : wr.grownBy w2 (Value.slice A n c).ownBlock) (ho : ∀ a, A = some a → w.heap.size ≤ a.block) : w.grownBy w2 r :=
  ⟨hg.os.trans h.os, hg.tape.trans h.tape, hg.output.trans h.output, Nat.le_trans h.size hg.size, fun i hi hr => (hg.block i (Nat.lt_of_lt_of_le hi h.size) (by
    cases A with
    | none => simp [Value.ownBlock]
    | some x => simp only [Value.ownBlock, ne_eq, Option.some.injEq]; intro e; have := ho x rfl; omega)).trans (h.block i hi hr)⟩
theorem own_ge {w : World} {b T K n m c : Nat} {A : Option Addr} {xs : List Value} (h : w.ownsRow b T K (.slice A m c) n xs) : ∀ a, A = some a → b ≤ a.block := fun a e => (own_lt h a e).1
theorem u8_at {w : World} {A : Option Addr} {n k : Nat} {l : List Int} (h : Cells w 1 A n (u8s l)) (hk : k < n) : ∃ (b o : Nat) (x : Int), A = some ⟨b, o, none⟩ ∧ l[k]? = some x ∧ w.cell? ⟨b, o + k, none⟩ = some (.int .u8 x) := by
  have hl : k < l.length := by have := h.1; unfold u8s at this; rw [List.length_map] at this; omega
  obtain ⟨⟨b, o, sp⟩, e, hc⟩ := h.2 (by unfold u8s; rw [List.length_map]; omega)
  have h0 := hc 0 (.int .u8 l[0]) (by unfold u8s; rw [List.getElem?_map, List.getElem?_eq_getElem (show 0 < l.length by omega)]; rfl)
  obtain rfl : sp = none := cell_spot (b := b) (o := o) h0
  have hs := List.getElem?_eq_getElem hl
  have := hc k (.int .u8 l[k]) (by unfold u8s; rw [List.getElem?_map, hs]; rfl)
  rw [add_flat] at this
  exact ⟨b, o, l[k], e, hs, this⟩
theorem apart_cur {w : World} {b g c : Nat} {A : Option Addr} {t : Tape} (h : CurIs w b g A c t) : Apart (some ⟨w.heap.size, 0, none⟩) (some ⟨g, 0, none⟩) := by
  intro a a' ha ha' e
  have := (cur_lt h).2
  injection ha with ha
  injection ha' with ha'
  subst ha
  subst ha'
  simp at e
  omega
theorem apart_callcur {w w1 : World} {T K n m c b g c' : Nat} {A A' : Option Addr} {xs : List Value} {t : Tape} (h1 : w1.ownsRow w.heap.size T K (.slice A m c) n xs) (h : CurIs w b g A' c' t) : Apart A (some ⟨g, 0, none⟩) := by
  intro a a' ha ha' e
  have := (cur_lt h).2
  have := (own_lt h1 a ha).1
  injection ha' with ha'
  subst ha'
  simp at e
  omega
theorem apart_x {n g bb oo : Nat} (h : 0 < n → Apart (some ⟨bb, oo, none⟩) (some ⟨g, 0, none⟩)) (h0 : 0 < n) : Apart (some ⟨g, 0, none⟩) (some ⟨bb, 0, none⟩) := by
  intro a a' ha ha' e
  injection ha with ha
  injection ha' with ha'
  subst ha
  subst ha'
  exact h h0 ⟨bb, oo, none⟩ ⟨g, 0, none⟩ rfl rfl e.symm
theorem apart_curold {w : World} {b g c bb : Nat} {A : Option Addr} {t : Tape} (h : CurIs w b g A c t) (hl : bb < b) : Apart (some ⟨g, 0, none⟩) (some ⟨bb, 0, none⟩) := by
  intro a a' ha ha' e
  have := (cur_lt h).1
  injection ha with ha
  injection ha' with ha'
  subst ha
  subst ha'
  simp at e
  omega
theorem cells_io {w w' : World} {K n m g : Nat} {A : Option Addr} {xs : List Value} (h : Cells w K A n xs) (hg : w.grownBy w' (Value.slice (some ⟨g, 0, none⟩) 1 1).ownBlock) (hX : 0 < m → Apart A (some ⟨g, 0, none⟩)) (hm : 0 < xs.length → 0 < m := by intro h; first | exact h | (simp only [List.length_map] at h; exact h)) : Cells w' K A n xs :=
  cells_kept h hg (fun a e h0 e2 => hX (hm h0) a ⟨g, 0, none⟩ e rfl e2)
theorem below_cur {w wr w2 : World} {B g : Nat} (h : Below B w wr) (hg : wr.grownBy w2 (Value.slice (some ⟨g, 0, none⟩) 1 1).ownBlock) (hB : B ≤ wr.heap.size) (hk : B ≤ g) : Below B w w2 :=
  h.grown hg hB (fun q hq => by have hq' : some g = some q := hq; injection hq' with e; omega)
/-- next -/
def P (t : Tape) : Option (Int × Tape) := if 0 < t.left then some (t.vals 0, t.tail) else none
theorem C (t : Tape) (w : World) (b g : Nat) (A : Option Addr) (c : Nat) (K : Hid (CurIs w b g A c t)) {r : Int} {t' : Tape} (H : Hid (P t = some (r, t'))) :
    Calls Tryd.prog 89 #[.pointer (some ⟨g, 0, none⟩)] w (fun e w' => e = .returned (.int .i64 r) ∧ CurIs w' b g A c t' ∧ w.grownBy w' (some g)) := by
  have h : P t = some (r, t') := H
  obtain ⟨code, k, seed, hA, hl, seeds, h0, hs⟩ := K.out
  unfold P at h
  by_cases hk : 0 < t.left
  · rw [if_pos hk] at h
    simp only [Option.some.injEq, Prod.mk.injEq] at h
    obtain ⟨rfl, rfl⟩ := h
    have h1 := hs 0 hk
    rw [h0] at h1
    refine (h1.2 w b g A c hA).mono ?_
    rintro e w' ⟨rfl, a1, a2⟩
    refine ⟨rfl, ⟨code, k + 1, seeds 1, a1, by show k + 1 + (t.left - 1) ≤ _; omega, fun i => seeds (i + 1), rfl, fun i hi => ?_⟩, a2⟩
    have h2 := hs (i + 1) (by have : i < t.left - 1 := hi; omega)
    rw [show k + 1 + i = k + (i + 1) by omega]
    exact h2
  · rw [if_neg hk] at h; simp at h
end Go.Proofs.YtpcdaoeijlifmaaDoor.GoC

/- More words for the contracts of plain functions: a test against nil, a row that is handed over, a row whose end is cleared. No condition. -/
namespace Go.Proofs.YtpcdaoeijlifmaaDoor.GoK
set_option linter.unusedVariables false
open Go.RowKit
open Go.Proofs.YtpcdaoeijlifmaaDoor.Rowed Go.Proofs.YtpcdaoeijlifmaaDoor.Turn Go.Proofs.YtpcdaoeijlifmaaDoor.GoM

/-- a test of a row against nil: only an empty row can be nil, and then both ways have one answer -/
def nilK {α ρ : Type} (l : List α) (f : Bool → Option ρ) : Option ρ := f false
theorem nilK_hid {α ρ : Type} {l : List α} {f : Bool → Option ρ} {r : ρ} (H : Hid (nilK l f = some r)) (b : Bool) (hb : b = true → l = []) (he : l = [] → f true = f false) : Hid (f b = some r) := by
  have h : f false = some r := H
  cases b with
  | false => exact h
  | true => exact (he (hb rfl)).trans h
theorem nil_cells {w : World} {K n : Nat} {A : Option Addr} {α : Type} {l : List α} {cs : List Value} (h : Cells w K A n cs) (hl : cs = [] → l = []) : A.isNone = true → l = [] := by
  intro hA
  refine hl ?_
  cases hc : cs with
  | nil => rfl
  | cons y ys => obtain ⟨a, e, _⟩ := h.2 (by rw [hc]; simp); rw [e] at hA; simp at hA
/-- where a row lies that a function hands on: where another one lay, or behind all that was there -/
def From (w : World) (A A' : Option Addr) : Prop := ∀ a', A' = some a' → (∃ a, A = some a ∧ a.block = a'.block) ∨ w.heap.size ≤ a'.block
theorem from_self {w : World} {A : Option Addr} : From w A A := fun a h => .inl ⟨a, h, rfl⟩
theorem from_new {w : World} {A : Option Addr} {g : Nat} (h : w.heap.size ≤ g) : From w A (some ⟨g, 0, none⟩) := by
  intro a' e
  injection e with e
  subst e
  exact .inr h
theorem apart_from {w : World} {A A' B : Option Addr} (hD : Apart A B) (hB : ∀ a, B = some a → a.block < w.heap.size) (h : From w A A') : Apart A' B := by
  intro a a' ha ha' e
  have hl := hB a' ha'
  rcases h a ha with ⟨a2, h2, e2⟩ | h2
  · exact hD a2 a' h2 ha' (e2.trans e)
  · omega
theorem own_emptyB {b : Nat} {wc : World} {T K : Nat} (h : b ≤ wc.heap.size) : (wc.alloc (.cells #[] T)).ownsRow b T K (.slice (some ⟨wc.heap.size, 0, none⟩) 0 0) 0 [] :=
  ⟨by simp, .inr ⟨wc.heap.size, 0, #[], rfl, h, heap_alloc_new wc _, Nat.le_refl _, by unfold maxLen; omega, by simp, by simp⟩⟩
theorem own_setCells {b T K n c g : Nat} : ∀ (vs : List Value) (o : Nat) {w : World} {xs : List Value}, w.ownsRow b T K (.slice (some ⟨g, 0, none⟩) n c) n xs → o + vs.length ≤ xs.length →
    (w.setCells g o vs).ownsRow b T K (.slice (some ⟨g, 0, none⟩) n c) n (xs.take o ++ vs ++ xs.drop (o + vs.length)) ∧ w.grownBy (w.setCells g o vs) (some g) := by
  intro vs
  induction vs with
  | nil => intro o w xs h _; exact ⟨by simpa [World.setCells] using h, Aid.grown_refl _ _⟩
  | cons v vs ih =>
    intro o w xs h hl
    simp only [List.length_cons] at hl
    have h1 := h.stored o v
    have h2 := ih (o + 1) h1.1 (by rw [List.length_set]; omega)
    refine ⟨?_, Aid.grown_tr h1.2 h2.2⟩
    have e : (xs.set o v).take (o + 1) ++ vs ++ (xs.set o v).drop (o + 1 + vs.length) = xs.take o ++ (v :: vs) ++ xs.drop (o + (v :: vs).length) := by
      have ho : o < xs.length := by omega
      rw [List.drop_set_of_lt (by omega), List.take_add_one, List.getElem?_set_self ho, List.take_set_of_le (Nat.le_refl _)]
      simp [Nat.add_comm, Nat.add_left_comm]
    rw [← e]
    exact h2.1
/-- clear(s[lo:]) of a row of its own -/
theorem own_clear {P : Program} {t e : TypeId} {i : TypeInfo} {k : IntKind} {n c b : Nat} {A : Option Addr} {lo : Int} {w : World} {xs ys : List Value} {z : Value}
    (ht : P.underlying t = some (.slice (P.elem t))) (he : P.elem t = e) (hi : P.info? e = some i) (hs : i.size = 1) (hv : i.zero = some z) (hz : z.cells = #[z]) (h1 : z.oneCell' = true)
    (h : w.ownsRow b e 1 (.slice A n c) n xs) (hl : 0 ≤ lo ∧ lo ≤ (n : Int)) (hd : xs.take lo.toNat ++ List.replicate (n - lo.toNat) z = ys) :
    ∃ A' m c' w', (∀ W, (Instr.slice t (.slice A n c) (some (.int k lo)) none none).run P W = .ok (.slice A' m c') W) ∧ (∀ ty, (Builtin.clear_ #[t] ty #[.slice A' m c']).run P w = .ok (.tuple #[]) w') ∧
      w'.ownsRow b e 1 (.slice A n c) n ys ∧ w.grownBy w' (Value.slice A n c).ownBlock := by
  have hR := own_room h
  have hxs : xs.length = n := by have := h.1; omega
  have hsz : ∀ W, (sizeOf (P.elem t)).run P W = .ok 1 W := by intro W; subst he; simp [sizeOf, typeInfo, hi, hs]
  have hrun : ∀ W, (Instr.slice t (.slice A n c) (some (.int k lo)) none none).run P W = .ok (.slice (if c = lo.toNat then A else A.map (·.add (lo.toNat * 1))) (n - lo.toNat) (c - lo.toNat)) W := by
    intro W
    rw [run_slice_l (P := P) W t A n c ht k lo hl.1 hl.2, hsz W]
    rfl
  by_cases hm : n - lo.toNat = 0
  · refine ⟨_, _, _, w, hrun, ?_, ?_, Aid.grown_refl _ _⟩
    · intro ty
      rw [hm]
      generalize (if c = lo.toNat then A else A.map (·.add (lo.toNat * 1))) = A'
      cases A' <;> simp [Builtin.clear_, run_underlying ht]
    · rw [← hd, hm, List.replicate_zero, List.append_nil, List.take_of_length_le (by omega)]
      exact h
  · obtain ⟨g, rfl⟩ := own_some h (by omega)
    have hne : ¬ c = lo.toNat := by have := hR.1; omega
    have hcl := own_cells h
    have hget : ∀ j, j < n → (w.cell? ⟨g, j, none⟩).isSome = true := by
      intro j hj
      obtain ⟨ad, e0, hc⟩ := hcl.2 (by omega)
      obtain rfl := Option.some.inj e0
      have := hc j xs[j] (List.getElem?_eq_getElem (by omega))
      rw [add_flat, Nat.zero_add] at this
      rw [this]; rfl
    have hadd : (if c = lo.toNat then (some ⟨g, 0, none⟩ : Option Addr) else (some ⟨g, 0, none⟩ : Option Addr).map (·.add (lo.toNat * 1))) = some ⟨g, lo.toNat, none⟩ := by
      rw [if_neg hne, Option.map_some, add_flat, Nat.zero_add, Nat.mul_one]
    rw [hadd] at hrun
    have h2 := own_setCells (List.replicate (n - lo.toNat) z) lo.toNat h (by rw [List.length_replicate]; omega)
    refine ⟨_, _, _, _, hrun, fun ty => ?_, ?_, h2.2⟩
    · refine Lib.run_clear_slice w t e ty z (he ▸ ht) (fun w => by simp [zeroValue, typeInfo, hi, hv]) hz h1 g lo.toNat (n - lo.toNat) (c - lo.toNat) (by omega) (fun j hj => hget _ (by omega)) (fun j hj => h.frozenAt _)
    · have e2 : xs.take lo.toNat ++ List.replicate (n - lo.toNat) z ++ xs.drop (lo.toNat + (List.replicate (n - lo.toNat) z).length) = ys := by
        rw [List.length_replicate, List.drop_of_length_le (by omega), List.append_nil, hd]
      rw [← e2]
      exact h2.1
theorem apart_xio {n bb oo : Nat} {B : Option Addr} (h : 0 < n → Apart (some ⟨bb, oo, none⟩) B) (h0 : 0 < n) : Apart B (some ⟨bb, 0, none⟩) := by
  intro a a' ha ha' e
  injection ha' with ha'
  subst ha'
  exact h h0 ⟨bb, oo, none⟩ a rfl ha e.symm
/-- a row that came in, where another one was written -/
theorem cells_wr {w w' : World} {K n q c' : Nat} {A B : Option Addr} {xs : List Value} (h : Cells w K A n xs) (hg : w.grownBy w' (Value.slice B q c').ownBlock) (hX : 0 < n → Apart A B) : Cells w' K A n xs := by
  refine ⟨h.1, fun h0 => ?_⟩
  obtain ⟨a, e, hc⟩ := h.2 h0
  have hn : 0 < n := by
    rcases Nat.eq_zero_or_pos n with h1 | h1
    · have := h.1; rw [h1, Nat.zero_mul] at this; omega
    · exact h1
  refine ⟨a, e, fun j u hu => ?_⟩
  have hj := hc j u hu
  have hb : (a.add j).block = a.block := by unfold Addr.add; split <;> rfl
  rw [World.cell?_of_block (hg.block (a.add j).block (cell_lt hj) ?_)]
  · exact hj
  · cases hB : B with
    | none => simp [Value.ownBlock]
    | some y =>
      simp only [Value.ownBlock, ne_eq, Option.some.injEq]
      intro e2
      exact hX hn a y e hB (by rw [← hb]; exact e2)
/-- what came in lies apart from a row of one's own -/
theorem far_base {w w1 : World} {K n T K' m c n' : Nat} {A B : Option Addr} {cs xs : List Value} (hK : 0 < K) (h : Cells w K A n cs) (hO : w1.ownsRow w.heap.size T K' (.slice B m c) n' xs) : 0 < n → Apart A B := by
  intro hn a a' ha ha' e
  have h0 : 0 < cs.length := by rw [h.1]; exact Nat.mul_pos hn hK
  obtain ⟨a2, e2, hc⟩ := h.2 h0
  obtain rfl : a = a2 := by rw [ha] at e2; exact Option.some.inj e2
  have hl := cell_lt (hc 0 _ (List.getElem?_eq_getElem h0))
  have hb : (a.add 0).block = a.block := by unfold Addr.add; simp
  have := (own_lt hO a' ha').1
  rw [hb] at hl
  omega
end Go.Proofs.YtpcdaoeijlifmaaDoor.GoK

/- Rows of rows: a row of slices, each of which is a row of its own, all apart from each other. No condition. -/
namespace Go.Proofs.YtpcdaoeijlifmaaDoor.GoN
set_option linter.unusedVariables false
open Go.RowKit
open Go.Proofs.YtpcdaoeijlifmaaDoor.Rowed Go.Proofs.YtpcdaoeijlifmaaDoor.Turn Go.Proofs.YtpcdaoeijlifmaaDoor.GoM Go.Proofs.YtpcdaoeijlifmaaDoor.GoK

/-- the cells of a row of slices whose headers are hs -/
def heads {F : Type} (l : List (List F)) (hs : List (Option Addr × Nat)) : List Value := (l.zip hs).map fun p => Value.slice p.2.1 p.1.length p.2.2
/-- l, laid as rows of its own; B: where they lie -/
def OwnNest {F : Type} (w : World) (b T rT rK : Nat) (f : List F → List Value) (A : Option Addr) (c : Nat) (l : List (List F)) (B : List (Option Addr)) : Prop :=
  ∃ hs : List (Option Addr × Nat), hs.length = l.length ∧ w.ownsRow b T 1 (.slice A l.length c) l.length (heads l hs) ∧
    (∀ (i : Nat) x h, l[i]? = some x → hs[i]? = some h → w.ownsRow b rT rK (.slice h.1 x.length h.2) x.length (f x)) ∧ B = A :: hs.map (·.1) ∧ B.Pairwise Apart
/-- l reads as rows -/
def ReadNest {F : Type} (w : World) (rK : Nat) (f : List F → List Value) (A : Option Addr) (l : List (List F)) : Prop :=
  ∃ hs : List (Option Addr × Nat), hs.length = l.length ∧ Cells w 1 A l.length (heads l hs) ∧
    ∀ (i : Nat) x h, l[i]? = some x → hs[i]? = some h → Cells w rK h.1 x.length (f x) ∧ Room h.1 x.length h.2 ∧ x.length ≤ 9223372036854775807

section
variable {F : Type} {w w' : World} {b T rT rK c : Nat} {f : List F → List Value} {A : Option Addr} {l : List (List F)} {B : List (Option Addr)}

theorem nest_below (h : OwnNest w b T rT rK f A c l B) (hb : Below w.heap.size w w') : OwnNest w' b T rT rK f A c l B := by
  obtain ⟨hs, h1, h2, h3, h4, h5⟩ := h
  exact ⟨hs, h1, own_below h2 hb, fun i x h hx hh => own_below (h3 i x h hx hh) hb, h4, h5⟩
/-- another row is written -/
theorem nest_other {n' c' : Nat} {A' : Option Addr} (h : OwnNest w b T rT rK f A c l B) (hg : w.grownBy w' (Value.slice A' n' c').ownBlock) (hD : ∀ x ∈ B, Apart A' x) : OwnNest w' b T rT rK f A c l B := by
  obtain ⟨hs, h1, h2, h3, h4, h5⟩ := h
  subst h4
  refine ⟨hs, h1, own_other h2 hg (hD _ (by simp)), fun i x h hx hh => own_other (h3 i x h hx hh) hg (hD _ ?_), rfl, h5⟩
  exact List.mem_cons_of_mem _ (List.mem_map.2 ⟨h, List.mem_of_getElem? hh, rfl⟩)
theorem nest_lt (h : OwnNest w b T rT rK f A c l B) : ∀ x ∈ B, ∀ a, x = some a → b ≤ a.block ∧ a.block < w.heap.size := by
  obtain ⟨hs, h1, h2, h3, rfl, h5⟩ := h
  intro x hx a ha
  rcases List.mem_cons.1 hx with rfl | hx
  · exact own_lt h2 a ha
  · obtain ⟨h, hh, rfl⟩ := List.mem_map.1 hx
    obtain ⟨i, hi⟩ := List.getElem?_of_mem hh
    have hil := (List.getElem?_eq_some_iff.1 hi).1
    exact own_lt (h3 i l[i] h (List.getElem?_eq_getElem (by omega)) hi) a ha
/-- what is laid now is apart from all of it -/
theorem nest_fresh (h : OwnNest w b T rT rK f A c l B) : ∀ x ∈ B, Apart (some ⟨w.heap.size, 0, none⟩) x := by
  intro x hx a a' ha ha' e
  have := (nest_lt h x hx a' ha').2
  injection ha with ha
  subst ha
  simp at e
  omega
theorem nest_call {w1 : World} {T' K' n m c' : Nat} {A' : Option Addr} {xs : List Value} (h1 : w1.ownsRow w.heap.size T' K' (.slice A' m c') n xs) (h : OwnNest w b T rT rK f A c l B) : ∀ x ∈ B, Apart A' x := by
  intro x hx a a' ha ha' e
  have := (nest_lt h x hx a' ha').2
  have := (own_lt h1 a ha).1
  omega
theorem nest_empty {wc : World} (h : b ≤ wc.heap.size) : OwnNest (wc.alloc (.cells #[] T)) b T rT rK f (some ⟨wc.heap.size, 0, none⟩) 0 ([] : List (List F)) [some ⟨wc.heap.size, 0, none⟩] :=
  ⟨[], rfl, ⟨by simp [heads], .inr ⟨wc.heap.size, 0, #[], rfl, h, heap_alloc_new wc _, Nat.le_refl _, by unfold maxLen; omega, by simp, by simp [heads]⟩⟩, fun i x h hx _ => by simp at hx, rfl, by simp⟩
theorem heads_at {hs : List (Option Addr × Nat)} {i : Nat} {x : List F} {h : Option Addr × Nat} (hx : l[i]? = some x) (hh : hs[i]? = some h) : (heads l hs)[i]? = some (.slice h.1 x.length h.2) := by
  unfold heads
  rw [List.getElem?_map, (List.getElem?_zip_eq_some (z := (x, h))).2 ⟨hx, hh⟩]; rfl
theorem heads_len {hs : List (Option Addr × Nat)} (h : hs.length = l.length) : (heads l hs).length = l.length := by unfold heads; rw [List.length_map, List.length_zip]; omega
theorem nest_read (h : OwnNest w b T rT rK f A c l B) : ReadNest w rK f A l := by
  obtain ⟨hs, h1, h2, h3, h4, h5⟩ := h
  exact ⟨hs, h1, own_cells h2, fun i x h hx hh => ⟨own_cells (h3 i x h hx hh), own_room (h3 i x h hx hh), own_max (h3 i x h hx hh)⟩⟩
theorem read_below (h : ReadNest w rK f A l) (hb : Below w.heap.size w w') : ReadNest w' rK f A l := by
  obtain ⟨hs, h1, h2, h3⟩ := h
  exact ⟨hs, h1, Cells.below h2 hb, fun i x h hx hh => ⟨Cells.below (h3 i x h hx hh).1 hb, (h3 i x h hx hh).2⟩⟩
/-- the slice at k -/
theorem nest_at {k : Nat} (h : ReadNest w rK f A l) (hk : k < l.length) : ∃ (bb o : Nat) (x : List F) (A1 : Option Addr) (c1 : Nat), A = some ⟨bb, o, none⟩ ∧ l[k]? = some x ∧ w.cell? ⟨bb, o + k, none⟩ = some (.slice A1 x.length c1) ∧
    Cells w rK A1 x.length (f x) ∧ Room A1 x.length c1 ∧ x.length ≤ 9223372036854775807 := by
  obtain ⟨hs, h1, h2, h3⟩ := h
  have hx := List.getElem?_eq_getElem hk
  have hh := List.getElem?_eq_getElem (show k < hs.length by omega)
  obtain ⟨⟨bb, o, sp⟩, e, hc⟩ := h2.2 (by rw [heads_len h1]; omega)
  have h0 := hc 0 _ (heads_at (List.getElem?_eq_getElem (show 0 < l.length by omega)) (List.getElem?_eq_getElem (show 0 < hs.length by omega)))
  obtain rfl : sp = none := cell_spot (b := bb) (o := o) h0
  have h4 := hc k _ (heads_at hx hh)
  rw [add_flat] at h4
  obtain ⟨r1, r2, r3⟩ := h3 k _ _ hx hh
  exact ⟨bb, o, l[k], hs[k].1, hs[k].2, e, hx, h4, r1, r2, r3⟩
/-- one row more, behind an append of its header -/
theorem nest_push {n' c' cx : Nat} {v' : Value} {Ax : Option Addr} {x : List F} {hs : List (Option Addr × Nat)} (h1 : hs.length = l.length)
    (h3 : ∀ (i : Nat) y h, l[i]? = some y → hs[i]? = some h → w'.ownsRow b rT rK (.slice h.1 y.length h.2) y.length (f y)) (hx : w'.ownsRow b rT rK (.slice Ax x.length cx) x.length (f x))
    (ho : w'.ownsRow b T 1 v' (l.length + 1) (heads l hs ++ [.slice Ax x.length cx])) (hp : (hs.map (·.1) ++ [Ax]).Pairwise Apart) (hv : ∀ a, v'.ownBlock = some a → ∀ y ∈ hs.map (·.1) ++ [Ax], ∀ a', y = some a' → a'.block ≠ a) :
    ∃ g cap, v' = .slice (some ⟨g, 0, none⟩) (l ++ [x]).length cap ∧ OwnNest w' b T rT rK f (some ⟨g, 0, none⟩) cap (l ++ [x]) (some ⟨g, 0, none⟩ :: (hs.map (·.1) ++ [Ax])) := by
  obtain ⟨g, cap, rfl⟩ : ∃ g cap, v' = .slice (some ⟨g, 0, none⟩) (l.length + 1) cap := by
    rcases ho.2 with ⟨_, h⟩ | ⟨g3, cap3, _, h, _⟩
    · omega
    · exact ⟨g3, cap3, h⟩
  have el : (l ++ [x]).length = l.length + 1 := by simp
  refine ⟨g, cap, by rw [el], hs ++ [(Ax, cx)], by simp [h1], ?_, ?_, by simp, ?_⟩
  · rw [el]
    have e : heads (l ++ [x]) (hs ++ [(Ax, cx)]) = heads l hs ++ [.slice Ax x.length cx] := by unfold heads; rw [List.zip_append h1.symm]; simp
    rw [e]; exact ho
  · intro i y h hy hh
    by_cases hi : i < l.length
    · rw [List.getElem?_append_left hi] at hy
      rw [List.getElem?_append_left (by omega)] at hh
      exact h3 i y h hy hh
    · have hi2 := (List.getElem?_eq_some_iff.1 hy).1
      rw [el] at hi2
      obtain rfl : i = l.length := by omega
      rw [List.getElem?_append_right (Nat.le_refl _)] at hy
      rw [List.getElem?_append_right (by omega)] at hh
      simp [h1] at hy hh
      subst hy
      subst hh
      exact hx
  · rw [List.pairwise_cons]
    refine ⟨fun y hy a a' ha ha' e => ?_, hp⟩
    injection ha with ha
    subst ha
    exact hv g rfl y hy a' ha' e.symm
theorem nest_head (h : OwnNest w b T rT rK f A c l B) : A ∈ B := by
  obtain ⟨hs, h1, h2, h3, rfl, h5⟩ := h
  simp
theorem nest_lower {b' : Nat} (h : OwnNest w b T rT rK f A c l B) (hb : b' ≤ b) : OwnNest w b' T rT rK f A c l B := by
  obtain ⟨hs, h1, h2, h3, h4, h5⟩ := h
  exact ⟨hs, h1, own_lower h2 hb, fun i x h hx hh => own_lower (h3 i x h hx hh) hb, h4, h5⟩
/-- what a call has laid lies apart from a row that was there -/
theorem nest_callrow {w1 : World} {b' T' K' n m c' : Nat} {A' : Option Addr} {xs : List Value} (h1 : OwnNest w1 w.heap.size T rT rK f A c l B) (h : w.ownsRow b' T' K' (.slice A' m c') n xs) : ∀ x ∈ B, Apart A' x := by
  intro x hx a a' ha ha' e
  have := (nest_lt h1 x hx a' ha').1
  have := (own_lt h a ha).2
  omega
theorem nest_callbox {w1 : World} {g j : Nat} {v : Value} (h1 : OwnNest w1 w.heap.size T rT rK f A c l B) (h : w.cell? ⟨g, j, none⟩ = some v) : ∀ x ∈ B, Apart (some ⟨g, 0, none⟩) x := by
  intro x hx a a' ha ha' e
  have := (nest_lt h1 x hx a' ha').1
  have hl : g < w.heap.size := cell_lt h
  injection ha with ha
  subst ha
  simp at e
  omega
theorem nest_callnest {F' : Type} {w1 : World} {b' T' rT' rK' c' : Nat} {f' : List F' → List Value} {A' : Option Addr} {l' : List (List F')} {B' : List (Option Addr)} (h1 : OwnNest w1 w.heap.size T rT rK f A c l B) (h : OwnNest w b' T' rT' rK' f' A' c' l' B') :
    ∀ x ∈ B, ∀ y ∈ B', Apart x y := by
  intro x hx y hy a a' ha ha' e
  have := (nest_lt h1 x hx a ha).1
  have := (nest_lt h y hy a' ha').2
  omega
theorem nest_flip {B B' : List (Option Addr)} (h : ∀ x ∈ B, ∀ y ∈ B', Apart x y) : ∀ y ∈ B', ∀ x ∈ B, Apart y x := fun y hy x hx => (h x hx y hy).symm
/-- the row at k -/
theorem nest_own {k : Nat} (h : OwnNest w b T rT rK f A c l B) (hk : k < l.length) : ∃ (g : Nat) (x : List F) (A1 : Option Addr) (c1 : Nat), A = some ⟨g, 0, none⟩ ∧ l[k]? = some x ∧ w.cell? ⟨g, k, none⟩ = some (.slice A1 x.length c1) ∧
    w.ownsRow b rT rK (.slice A1 x.length c1) x.length (f x) ∧ A1 ∈ B ∧ Apart A A1 := by
  obtain ⟨hs, h1, h2, h3, rfl, h5⟩ := h
  have hx := List.getElem?_eq_getElem hk
  have hh := List.getElem?_eq_getElem (show k < hs.length by omega)
  obtain ⟨g, rfl⟩ := own_some h2 (by omega)
  obtain ⟨ad, e, hc⟩ := (own_cells h2).2 (by rw [heads_len h1]; omega)
  obtain rfl := Option.some.inj e
  have h4 := hc k _ (heads_at hx hh)
  rw [add_flat, Nat.zero_add] at h4
  have hm : hs[k].1 ∈ hs.map (·.1) := List.mem_map.2 ⟨hs[k], List.getElem_mem _, rfl⟩
  exact ⟨g, l[k], hs[k].1, hs[k].2, rfl, hx, h4, h3 k _ _ hx hh, List.mem_cons_of_mem _ hm, (List.pairwise_cons.1 h5).1 _ hm⟩
/-- a row in it has been written -/
theorem nest_store {k g n' c' : Nat} {x x' : List F} {A1 : Option Addr} {c1 : Nat} (h : OwnNest w b T rT rK f (some ⟨g, 0, none⟩) c l B) (hk : l[k]? = some x) (hcell : w.cell? ⟨g, k, none⟩ = some (.slice A1 x.length c1))
    (hx : w'.ownsRow b rT rK (.slice A1 n' c1) n' (f x')) (hn : x'.length = n') (hn2 : x.length = n') (hg : w.grownBy w' (Value.slice A1 n' c').ownBlock) : OwnNest w' b T rT rK f (some ⟨g, 0, none⟩) c (l.set k x') B := by
  subst hn
  obtain ⟨hs, h1, h2, h3, rfl, h5⟩ := h
  have hkl := (List.getElem?_eq_some_iff.1 hk).1
  have hh := List.getElem?_eq_getElem (show k < hs.length by omega)
  obtain ⟨ad, e, hc⟩ := (own_cells h2).2 (by rw [heads_len h1]; omega)
  obtain rfl := Option.some.inj e
  have h4 := hc k _ (heads_at hk hh)
  rw [add_flat, Nat.zero_add, hcell] at h4
  have h4' := Option.some.inj h4
  simp only [Value.slice.injEq] at h4'
  obtain ⟨e1, _, e2⟩ := h4'
  subst e1
  have hap := List.pairwise_cons.1 h5
  have hmk : hs[k].1 ∈ hs.map (·.1) := List.mem_map.2 ⟨hs[k], List.getElem_mem _, rfl⟩
  refine ⟨hs, by rw [List.length_set]; exact h1, ?_, ?_, rfl, h5⟩
  · have e3 : heads (l.set k x') hs = heads l hs := by
      apply List.ext_getElem?
      intro i
      unfold heads
      rw [List.getElem?_map, List.getElem?_map]
      by_cases hi : i < l.length
      · have hi2 : i < hs.length := by omega
        by_cases hik : k = i
        · subst hik
          rw [(List.getElem?_zip_eq_some (z := (x', hs[k]))).2 ⟨by rw [List.getElem?_set_self hkl], hh⟩, (List.getElem?_zip_eq_some (z := (x, hs[k]))).2 ⟨hk, hh⟩]
          simp [hn2]
        · rw [(List.getElem?_zip_eq_some (z := (l[i], hs[i]))).2 ⟨by rw [List.getElem?_set_ne hik]; exact List.getElem?_eq_getElem hi, List.getElem?_eq_getElem hi2⟩,
            (List.getElem?_zip_eq_some (z := (l[i], hs[i]))).2 ⟨List.getElem?_eq_getElem hi, List.getElem?_eq_getElem hi2⟩]
      · rw [List.getElem?_eq_none (by rw [List.length_zip, List.length_set]; omega), List.getElem?_eq_none (by rw [List.length_zip]; omega)]
    rw [e3, List.length_set]
    refine own_other h2 hg ?_
    exact (hap.1 _ hmk).symm
  · intro i y h hy hhi
    by_cases hik : k = i
    · subst hik
      rw [List.getElem?_set_self hkl] at hy
      obtain rfl := Option.some.inj hy
      obtain rfl := Option.some.inj (hh.symm.trans hhi)
      rw [← e2]
      exact hx
    · rw [List.getElem?_set_ne hik] at hy
      refine own_other (h3 i y h hy hhi) hg ?_
      have hi2 := (List.getElem?_eq_some_iff.1 hhi).1
      have hp := List.pairwise_iff_getElem.1 hap.2
      have ei : h = hs[i] := by rw [List.getElem?_eq_getElem hi2] at hhi; exact (Option.some.inj hhi).symm
      rw [ei]
      rcases Nat.lt_or_gt_of_ne hik with h6 | h6
      · have := hp k i (by rw [List.length_map]; omega) (by rw [List.length_map]; omega) h6
        simpa using this
      · have := hp i k (by rw [List.length_map]; omega) (by rw [List.length_map]; omega) h6
        simpa using this.symm
/-- what lies in B' : what lay in B, the row at Ax, and the headers, where they were or behind all -/
def Pushed (w : World) (A Ax : Option Addr) (B B' : List (Option Addr)) : Prop := A ∈ B ∧ Ax ∈ B' ∧ ∀ y ∈ B', y ∈ B ∨ y = Ax ∨ From w A y
theorem apart_push {R Ax : Option Addr} {B' : List (Option Addr)} (hD : ∀ y ∈ B, Apart R y) (hx : Apart R Ax) (hR : ∀ a, R = some a → a.block < w.heap.size) (h : Pushed w A Ax B B') : ∀ y ∈ B', Apart R y := by
  intro y hy
  rcases h.2.2 y hy with h1 | rfl | h1
  · exact hD y h1
  · exact hx
  · exact (apart_from (hD A h.1).symm hR h1).symm
theorem apart_pushN {Ax : Option Addr} {B' C : List (Option Addr)} (hD : ∀ r ∈ C, ∀ y ∈ B, Apart r y) (hx : ∀ r ∈ C, Apart Ax r) (hR : ∀ r ∈ C, ∀ a, r = some a → a.block < w.heap.size) (h : Pushed w A Ax B B') : ∀ r ∈ C, ∀ y ∈ B', Apart r y :=
  fun r hr => apart_push (hD r hr) (hx r hr).symm (hR r hr) h
/-- append(rows, row): the row is in the nest from here on, and reads as before -/
theorem nest_app {n' c' : Nat} {v' : Value} {Ax : Option Addr} {cx : Nat} {x : List F} {hs : List (Option Addr × Nat)} {l' : List (List F)} (hl' : l ++ [x] = l') (h1 : hs.length = l.length) (h4 : B = A :: hs.map (·.1))
    (h3 : ∀ (i : Nat) y h, l[i]? = some y → hs[i]? = some h → w.ownsRow b rT rK (.slice h.1 y.length h.2) y.length (f y)) (h5 : B.Pairwise Apart) (hx : w.ownsRow b rT rK (.slice Ax x.length cx) x.length (f x))
    (hD : ∀ y ∈ B, Apart Ax y) (hg : w.grownBy w' (Value.slice A n' c').ownBlock) (ho : w'.ownsRow b T 1 v' (l.length + 1) (heads l hs ++ [.slice Ax x.length cx]))
    (hy : v'.ownBlock = (Value.slice A n' c').ownBlock ∨ v'.ownBlock = some w.heap.size) :
    ∃ g cap B', v' = .slice (some ⟨g, 0, none⟩) l'.length cap ∧ OwnNest w' b T rT rK f (some ⟨g, 0, none⟩) cap l' B' ∧ Pushed w A Ax B B' ∧ w'.ownsRow b rT rK (.slice Ax x.length cx) x.length (f x) := by
  subst hl'
  subst h4
  have hp := List.pairwise_cons.1 h5
  have hx' := own_other hx hg (hD A (by simp)).symm
  have hlt : ∀ y ∈ hs.map (·.1) ++ [Ax], ∀ a, y = some a → a.block < w.heap.size := by
    intro y hy a ha
    rcases List.mem_append.1 hy with hy | hy
    · obtain ⟨h, hh, rfl⟩ := List.mem_map.1 hy
      obtain ⟨i, hi⟩ := List.getElem?_of_mem hh
      have hil := (List.getElem?_eq_some_iff.1 hi).1
      exact (own_lt (h3 i l[i] h (List.getElem?_eq_getElem (by omega)) hi) a ha).2
    · simp at hy; subst hy; exact (own_lt hx a ha).2
  obtain ⟨g, cap, e, hN⟩ := nest_push (c' := c') (n' := n') h1 (fun i y h hy hh => own_other (h3 i y h hy hh) hg (hp.1 _ (List.mem_map.2 ⟨h, List.mem_of_getElem? hh, rfl⟩))) hx' ho
    (List.pairwise_append.2 ⟨hp.2, by simp, fun a ha b hb => by simp at hb; subst hb; exact (hD a (List.mem_cons_of_mem _ ha)).symm⟩)
    (by
      intro a ha y hy a' ha' e
      rcases hy with hy
      rcases ‹v'.ownBlock = _ ∨ _› with h6 | h6
      · rw [ha] at h6
        cases hA : A with
        | none => rw [hA] at h6; simp [Value.ownBlock] at h6
        | some z =>
          rw [hA] at h6
          simp only [Value.ownBlock, Option.some.injEq] at h6
          rcases List.mem_append.1 hy with hy | hy
          · exact hp.1 y hy z a' hA ha' (by omega)
          · simp at hy; subst hy; exact hD A (by simp) a' z ha' hA (by omega)
      · rw [ha] at h6
        have := hlt y hy a' ha'
        simp only [Option.some.injEq] at h6; omega)
  refine ⟨g, cap, _, e, hN, ⟨by simp, by simp, ?_⟩, hx'⟩
  intro y hy
  rcases List.mem_cons.1 hy with rfl | hy
  · right; right
    rw [e] at ‹v'.ownBlock = _ ∨ _›
    intro a' ha'
    injection ha' with ha'
    subst ha'
    rcases ‹_ ∨ _› with h6 | h6
    · left
      cases hA : A with
      | none => rw [hA] at h6; simp [Value.ownBlock] at h6
      | some z => rw [hA] at h6; simp only [Value.ownBlock, Option.some.injEq] at h6; exact ⟨z, rfl, h6.symm⟩
    · right; simp only [Value.ownBlock, Option.some.injEq] at h6; exact Nat.le_of_eq h6.symm
  · rcases List.mem_append.1 hy with hy | hy
    · exact .inl (List.mem_cons_of_mem _ hy)
    · simp at hy; exact .inr (.inl hy)
theorem nest_one {X R : Option Addr} (h : Apart X R) : ∀ y ∈ [X], Apart R y := by
  intro y hy
  simp at hy
  subst hy
  exact h.symm
theorem nest_max (h : OwnNest w b T rT rK f A c l B) : l.length ≤ 9223372036854775807 := by
  obtain ⟨hs, h1, h2, h3, h4, h5⟩ := h
  exact own_max h2
theorem nest_room (h : OwnNest w b T rT rK f A c l B) : Room A l.length c := by
  obtain ⟨hs, h1, h2, h3, h4, h5⟩ := h
  exact own_room h2
/-- w' is w but for what lies in B, and for new blocks -/
structure GrownN (w w' : World) (B : List (Option Addr)) : Prop where
  os : w'.os = w.os
  tape : w'.tape = w.tape
  output : w'.output = w.output
  size : w.heap.size ≤ w'.heap.size
  block : ∀ k, k < w.heap.size → (∀ y ∈ B, ∀ a, y = some a → a.block ≠ k) → w'.heap[k]? = w.heap[k]?
theorem grownN_refl (w : World) (B : List (Option Addr)) : GrownN w w B := ⟨rfl, rfl, rfl, Nat.le_refl _, fun _ _ _ => rfl⟩
theorem grownN_below {wr w2 : World} {B : List (Option Addr)} (h : GrownN w wr B) (hb : Below wr.heap.size wr w2) : GrownN w w2 B :=
  ⟨hb.os.trans h.os, hb.tape.trans h.tape, hb.output.trans h.output, Nat.le_trans h.size hb.size, fun k hk h1 => (hb.block k (Nat.lt_of_lt_of_le hk h.size)).trans (h.block k hk h1)⟩
theorem grownN_row {wr w2 : World} {B : List (Option Addr)} {n c' : Nat} {A1 : Option Addr} (h : GrownN w wr B) (hg : wr.grownBy w2 (Value.slice A1 n c').ownBlock) (hm : A1 ∈ B) : GrownN w w2 B :=
  ⟨hg.os.trans h.os, hg.tape.trans h.tape, hg.output.trans h.output, Nat.le_trans h.size hg.size, fun k hk h1 => (hg.block k (Nat.lt_of_lt_of_le hk h.size) (by
    cases hA : A1 with
    | none => simp [Value.ownBlock]
    | some a => simp only [Value.ownBlock, ne_eq, Option.some.injEq]; exact fun e => h1 _ hm a hA e.symm)).trans (h.block k hk h1)⟩
theorem below_nest {wr w2 : World} {B0 : Nat} {B : List (Option Addr)} (h : Below B0 w wr) (hg : GrownN wr w2 B) (hB : B0 ≤ wr.heap.size) (h1 : ∀ y ∈ B, ∀ a, y = some a → B0 ≤ a.block ∧ a.block < wr.heap.size) : Below B0 w w2 :=
  ⟨hg.os.trans h.os, hg.tape.trans h.tape, hg.output.trans h.output, Nat.le_trans h.size hg.size, fun k hk => (hg.block k (Nat.lt_of_lt_of_le hk hB) (fun y hy a e e2 => by have := (h1 y hy a e).1; omega)).trans (h.block k hk)⟩
theorem own_otherN {b' T' K' n m c' : Nat} {R : Option Addr} {ys : List Value} (h : w.ownsRow b' T' K' (.slice R m c') n ys) (hg : GrownN w w' B) (hD : ∀ y ∈ B, Apart R y) : w'.ownsRow b' T' K' (.slice R m c') n ys := by
  refine ⟨h.1, ?_⟩
  rcases h.2 with hn | ⟨g, cap, cur, hv, hb, hgg, rest⟩
  · exact .inl hn
  · have hlt := (h.lt g (by rw [hv]; rfl)).2
    have hR : R = some ⟨g, 0, none⟩ := by simp only [Value.slice.injEq] at hv; exact hv.1
    refine .inr ⟨g, cap, cur, hv, hb, ?_, rest⟩
    rw [hg.block g hlt (fun y hy a e e2 => hD y hy _ a hR e e2.symm)]
    exact hgg
theorem cell_otherN {a : Addr} {v : Value} (h : w.cell? a = some v) (hg : GrownN w w' B) (hD : ∀ y ∈ B, Apart (some ⟨a.block, 0, none⟩) y) : w'.cell? a = some v := by
  rw [World.cell?_of_block (hg.block a.block (cell_lt h) (fun y hy x e e2 => hD y hy _ x rfl e e2.symm))]
  exact h
theorem apart_oldN {wr : World} {b' g : Nat} (h : OwnNest wr b' T rT rK f A c l B) (hg : g < b') : ∀ y ∈ B, Apart (some ⟨g, 0, none⟩) y := by
  intro y hy a a' ha ha' e
  have := (nest_lt h y hy a' ha').1
  injection ha with ha
  subst ha
  simp at e
  omega
theorem nest_otherN {F' : Type} {b' T' rT' rK' c' : Nat} {f' : List F' → List Value} {A' : Option Addr} {l' : List (List F')} {B' : List (Option Addr)} (h : OwnNest w b' T' rT' rK' f' A' c' l' B') (hg : GrownN w w' B) (hD : ∀ x ∈ B', ∀ y ∈ B, Apart x y) : OwnNest w' b' T' rT' rK' f' A' c' l' B' := by
  obtain ⟨hs, h1, h2, h3, rfl, h5⟩ := h
  refine ⟨hs, h1, own_otherN h2 hg (hD _ (by simp)), fun i x h hx hh => own_otherN (h3 i x h hx hh) hg (hD _ ?_), rfl, h5⟩
  exact List.mem_cons_of_mem _ (List.mem_map.2 ⟨h, List.mem_of_getElem? hh, rfl⟩)
end
end Go.Proofs.YtpcdaoeijlifmaaDoor.GoN

/- The contracts of the laws' helpers on slices of ints: toIntS, eqIntS, markIntS, heldIntS. Condition: the slice reads as a list of ints. -/
namespace Go.Proofs.YtpcdaoeijlifmaaDoor.HelpInt
set_option linter.unusedVariables false
open Go.RowKit
open Go.Proofs.YtpcdaoeijlifmaaDoor.Rowed

/-- ints as values -/
def iv (l : List Int) : List Value := l.map (Value.int .i64)
theorem iv_len (l : List Int) : (iv l).length = l.length := by simp [iv]
theorem iv_at (l : List Int) (k : Nat) : (iv l)[k]? = (l[k]?).map (Value.int .i64) := by simp [iv]
theorem iv_snoc (l : List Int) (x : Int) : iv (l ++ [x]) = iv l ++ [.int .i64 x] := by simp [iv]
/-- the slice 'A, n' reads as the ints l -/
abbrev Ints (w : World) (A : Option Addr) (n : Nat) (l : List Int) : Prop := Cells w 1 A n (iv l)
theorem add_none (b o n : Nat) : (⟨b, o, none⟩ : Addr).add n = ⟨b, o + n, none⟩ := by
  unfold Addr.add; split
  · rename_i h; subst h; rfl
  · rfl
theorem Ints.at_ {w : World} {A : Option Addr} {n k : Nat} {l : List Int} (h : Ints w A n l) (hk : k < n) : ∃ (b o : Nat) (x : Int), A = some ⟨b, o, none⟩ ∧ l[k]? = some x ∧ w.cell? ⟨b, o + k, none⟩ = some (.int .i64 x) := by
  have hl : k < l.length := by have := h.1; rw [iv_len] at this; omega
  obtain ⟨⟨b, o, sp⟩, e, hc⟩ := h.2 (by rw [iv_len]; omega)
  have h0 := hc 0 _ (by rw [iv_at, List.getElem?_eq_getElem (show 0 < l.length by omega)]; rfl)
  obtain rfl : sp = none := cell_spot (b := b) (o := o) h0
  have hs := List.getElem?_eq_getElem hl
  have := hc k (.int .i64 l[k]) (by rw [iv_at, hs]; rfl)
  rw [add_none] at this
  exact ⟨b, o, l[k], e, hs, this⟩








end Go.Proofs.YtpcdaoeijlifmaaDoor.HelpInt

/- How a struct of one-cell fields that comes in as data is opened, whatever the number of its fields; lists by their members. No condition. -/
namespace Go.Proofs.YtpcdaoeijlifmaaDoor.OpenAny
set_option linter.unusedVariables false
open Go.Joins Go.ChangeShapes Go.WideShapes Go.RowKit Go.Deep

theorem add_none (b o n : Nat) : (⟨b, o, none⟩ : Addr).add n = ⟨b, o + n, none⟩ := by
  unfold Addr.add; split
  · rename_i h; subst h; rfl
  · rfl
section
variable {H : Type} {enc : TypeId × Value → H} {P : Program} {w : World} {base : Nat} {spare : Nat → Bool} {held : Bool}
/-- each field reads on its own -/
theorem read_fields {t : TypeId} {fs : Array Field} {fuel : Nat} {cs : List Value} {x : DataW H × List MemPlace} (hs : P.underlying t = some (.struct fs)) (hone : oneCellFields P fs = true) (hC : P.cellsOf t = fs.size)
    (h : DataW.trod enc P w base spare held fuel t cs = some x) :
    cs.length = P.cellsOf t ∧ ∀ (j : Nat) (f : Field), fs[j]? = some f → ∃ (u : Value) (n : Nat) (y : DataW H × List MemPlace), cs[j]? = some u ∧ DataW.trod enc P w base spare held n f.type [u] = some y := by
  obtain ⟨xs, n, _, _, hlen, hxl, hg⟩ := DataW.trod_struct hs h
  refine ⟨hlen, fun j f hj => ?_⟩
  obtain ⟨ho, hk⟩ := hone_of hone j f hj
  have hjl : j < fs.size := (Array.getElem?_eq_some_iff.1 hj).1
  have h1 := hg j f hj
  rw [ho, hk, List.getElem?_eq_getElem (by omega : j < xs.length)] at h1
  have hc : j < cs.length := by omega
  rw [List.drop_eq_getElem_cons hc] at h1
  exact ⟨cs[j], n, _, List.getElem?_eq_getElem hc, h1⟩
/-- an aggregate that comes in reads as its cells do -/
theorem agg_any {r : Reach} {b0 : Nat} {t : TypeId} {fs : Array Field} {v : Value} {d : DataW H} {p : List MemPlace} (hs : P.underlying t = some (.struct fs)) (hv : Value.okWide P w r b0 t v) (h : DataW.Trod enc P w base spare held t v d p) :
    ∃ (cs : Array Value) (n : Nat) (x : DataW H × List MemPlace), v = .agg cs ∧ DataW.trod enc P w base spare held n t cs.toList = some x := by
  obtain ⟨cs, rfl, _⟩ := okWide_struct hs hv
  obtain ⟨fuel, hf⟩ := h
  exact ⟨cs, fuel, _, rfl, hf⟩
end
/-- a list by its members -/
theorem list_of {α : Type} (p : Nat → α → Prop) : ∀ (n : Nat), (∀ k, k < n → ∃ a, p k a) → ∃ l : List α, l.length = n ∧ ∀ k a, l[k]? = some a → p k a
  | 0, _ => ⟨[], rfl, fun k a h => by simp at h⟩
  | n + 1, h => by
    obtain ⟨l, hl, hp⟩ := list_of p n (fun k hk => h k (by omega))
    obtain ⟨a, ha⟩ := h n (by omega)
    refine ⟨l ++ [a], by simp [hl], fun k b hb => ?_⟩
    by_cases hk : k < n
    · rw [List.getElem?_append_left (by omega)] at hb; exact hp k b hb
    · have hk' : k < (l ++ [a]).length := (List.getElem?_eq_some_iff.1 hb).1
      simp [hl] at hk'
      obtain rfl : k = n := by omega
      rw [List.getElem?_append_right (by omega), hl, Nat.sub_self] at hb
      obtain rfl : a = b := by simpa using hb
      exact ha
end Go.Proofs.YtpcdaoeijlifmaaDoor.OpenAny

/- The record Comb as data that comes in, and a slice of it. No condition. -/
namespace Go.Proofs.YtpcdaoeijlifmaaDoor.OComb
set_option linter.unusedVariables false
set_option maxRecDepth 100000
open Go.Joins Go.ChangeShapes Go.WideShapes Go.RowKit Go.Deep
open Go.Proofs.YtpcdaoeijlifmaaDoor.Rowed Go.Proofs.YtpcdaoeijlifmaaDoor.OpenAny Go.Proofs.YtpcdaoeijlifmaaDoor.PComb

/-- the slice 'A, n' reads as the records l -/
abbrev Combs (w : World) (A : Option Addr) (n : Nat) (l : List Comb) : Prop := Cells w 4 A n (flat l)
theorem at_ {w : World} {A : Option Addr} {n k : Nat} {l : List Comb} (h : Combs w A n l) (hk : k < n) :
    ∃ (b o : Nat) (s : Comb), A = some ⟨b, o, none⟩ ∧ l[k]? = some s ∧ w.cell? ⟨b, o + k * 4, none⟩ = some (.int .i64 s.id) ∧ w.cell? ⟨b, o + k * 4 + 1, none⟩ = some (.int .i64 s.wide) ∧ w.cell? ⟨b, o + k * 4 + 2, none⟩ = some (.int .i64 s.high) ∧ w.cell? ⟨b, o + k * 4 + 3, none⟩ = some (.bool s.line) := by
  have hl : k < l.length := by have := h.1; rw [flat_len] at this; omega
  obtain ⟨⟨b, o, sp⟩, e, hc⟩ := h.2 (by rw [flat_len]; omega)
  have h0 := hc 0 _ (flat_at l 0 l[0] (List.getElem?_eq_getElem (by omega)) 0 (by omega))
  obtain rfl : sp = none := cell_spot (b := b) (o := o) h0
  have hs := List.getElem?_eq_getElem hl
  have f := flat_at l k _ hs
  have g := fun j u hu => add_none b o j ▸ hc j u hu
  exact ⟨b, o, l[k], e, hs, g _ _ (f 0 (by omega)), g _ _ (f 1 (by omega)), g _ _ (f 2 (by omega)), g _ _ (f 3 (by omega))⟩
theorem len_of {w : World} {A : Option Addr} {n : Nat} {l : List Comb} (h : Combs w A n l) : l.length = n := by
  have := h.1
  rw [flat_len] at this; omega

/-- a slice of records that came in: the list that it reads as -/
structure Came (w : World) (A : Option Addr) (len cap : Nat) (l : List Comb) : Prop where
  cells : Combs w A len l
  small : len ≤ maxLen
  fits : ∀ s ∈ l, s.fits
theorem Came.len {w : World} {A : Option Addr} {len cap : Nat} {l : List Comb} (h : Came w A len cap l) : l.length = len := len_of h.cells

section
variable {H : Type} {enc : TypeId × Value → H} {w : World} {base : Nat} {spare : Nat → Bool} {held : Bool}
theorem read_one {n : Nat} {cs : List Value} {x : DataW H × List MemPlace} (h : DataW.trod enc Tryd.prog w base spare held n 43 cs = some x) : ∃ s : Comb, cs = s.cells ∧ s.fits := by
  have hc : Tryd.prog.cellsOf 43 = 4 := by kernel_rfl
  obtain ⟨hl, hf⟩ := read_fields Tryd.underlying43 (by kernel_rfl) hc h
  rw [hc] at hl
  match cs, hl with
  | [v0, v1, v2, v3], _ =>
    obtain ⟨u0, n0, y0, eu0, t0⟩ := hf 0 _ rfl
    obtain ⟨x0, e0, _, f0⟩ := DataW.trod_int Tryd.underlying3 t0
    obtain rfl : v0 = u0 := by simpa using eu0
    obtain rfl : v0 = .int .i64 x0 := by simpa using e0
    obtain ⟨u1, n1, y1, eu1, t1⟩ := hf 1 _ rfl
    obtain ⟨x1, e1, _, f1⟩ := DataW.trod_int Tryd.underlying3 t1
    obtain rfl : v1 = u1 := by simpa using eu1
    obtain rfl : v1 = .int .i64 x1 := by simpa using e1
    obtain ⟨u2, n2, y2, eu2, t2⟩ := hf 2 _ rfl
    obtain ⟨x2, e2, _, f2⟩ := DataW.trod_int Tryd.underlying3 t2
    obtain rfl : v2 = u2 := by simpa using eu2
    obtain rfl : v2 = .int .i64 x2 := by simpa using e2
    obtain ⟨u3, n3, y3, eu3, t3⟩ := hf 3 _ rfl
    obtain ⟨x3, e3, _⟩ := DataW.trod_bool Tryd.underlying4 t3
    obtain rfl : v3 = u3 := by simpa using eu3
    obtain rfl : v3 = .bool x3 := by simpa using e3
    exact ⟨⟨x0, x1, x2, x3⟩, rfl, f0, f1, f2, trivial⟩
theorem open_one {r : Reach} {b0 : Nat} {v : Value} {d : DataW H} {p : List MemPlace} (hv : Value.okWide Tryd.prog w r b0 43 v) (h : DataW.Trod enc Tryd.prog w base spare held 43 v d p) :
    ∃ s : Comb, v = s.val ∧ s.fits := by
  obtain ⟨cs, n, x, rfl, ht⟩ := agg_any Tryd.underlying43 hv h
  obtain ⟨s, e, hs⟩ := read_one ht
  refine ⟨s, ?_, hs⟩
  obtain ⟨l⟩ := cs
  obtain rfl : l = s.cells := by simpa using e
  rfl
end
theorem open_many {H : Type} {enc : TypeId × Value → H} {W : World} {a : Option Addr} {len cap : Nat} {d : DataW H} {p : List MemPlace}
    (h : DataW.Trod enc Tryd.prog W 0 (fun _ => true) true 35 (.slice a len cap) d p) : ∃ l : List Comb, Came W a len cap l := by
  obtain ⟨fuel, hf⟩ := h
  have ck : Tryd.prog.cellsOf 43 = 4 := by kernel_rfl
  rcases open_slice Tryd.underlying35 hf with ⟨hcs, _⟩ | ⟨x, ln, cp, m, n, D, Pl, hcs, hb, hl, hm, hmm, _, hi⟩
  · simp [Value.cells] at hcs
    obtain ⟨rfl, rfl, rfl⟩ := hcs
    exact ⟨[], Cells.nil_ _ _ _, by unfold maxLen; omega, by intro s hs; simp at hs⟩
  · simp [Value.cells] at hcs
    obtain ⟨rfl, rfl, rfl⟩ := hcs
    simp only [if_true] at hmm
    subst hmm
    rw [ck] at hi
    obtain ⟨l, hll, hp⟩ := list_of (fun k s => Comb.fits s ∧ ∀ j, j < 4 → W.cell? (x.add (k * 4 + j)) = s.cells[j]?) len (fun k hk => by
      obtain ⟨cs', hc, ht⟩ := hi k (by omega)
      obtain ⟨s, rfl, hfit⟩ := read_one ht
      refine ⟨s, hfit, fun j hj => ?_⟩
      have := (World.cells?_some hc).2.2 j hj
      rw [Go.Deep.add_add] at this
      exact this)
    refine ⟨l, ⟨by rw [flat_len, hll], fun h0 => ⟨x, rfl, fun j u hu => ?_⟩⟩, by omega, fun s hs => ?_⟩
    · have hj : j < (flat l).length := (List.getElem?_eq_some_iff.1 hu).1
      rw [flat_len] at hj
      have hk : j / 4 < l.length := by omega
      have e := flat_at l (j / 4) l[j/4] (List.getElem?_eq_getElem hk) (j % 4) (by omega)
      rw [show j / 4 * 4 + j % 4 = j by omega, hu] at e
      have := (hp (j / 4) l[j/4] (List.getElem?_eq_getElem hk)).2 (j % 4) (by omega)
      rw [show j / 4 * 4 + j % 4 = j by omega, ← e] at this
      exact this
    · obtain ⟨k, hk⟩ := List.getElem?_of_mem hs
      exact (hp k s hk).1

/-- a record that was boxed -/
theorem box_ {w : World} {s : Comb} {g : Nat} (h : Cells w 4 (some ⟨g, 0, none⟩) 1 s.cells) : w.cell? ⟨g, 0, none⟩ = some (.int .i64 s.id) ∧ w.cell? ⟨g, 1, none⟩ = some (.int .i64 s.wide) ∧ w.cell? ⟨g, 2, none⟩ = some (.int .i64 s.high) ∧ w.cell? ⟨g, 3, none⟩ = some (.bool s.line) := by
  obtain ⟨ad, e, hc⟩ := h.2 (by simp [Comb.cells])
  obtain rfl := Option.some.inj e
  have gg := fun j u hu => add_none g 0 j ▸ hc j u hu
  exact ⟨by simpa using gg 0 _ rfl, by simpa using gg 1 _ rfl, by simpa using gg 2 _ rfl, by simpa using gg 3 _ rfl⟩
theorem box_new (w : World) (s : Comb) (T : TypeId) : Cells (w.alloc (.cells #[.int .i64 s.id, .int .i64 s.wide, .int .i64 s.high, .bool s.line] T)) 4 (some ⟨w.heap.size, 0, none⟩) 1 s.cells :=
  ⟨by simp [Comb.cells], fun _ => ⟨_, rfl, fun j u hu => by
    have hj : j < 4 := by have := (List.getElem?_eq_some_iff.1 hu).1; simpa [Comb.cells] using this
    rw [add_none, World.cell?_alloc_new]
    match j, hj with
    | 0, _ => simpa [Comb.cells] using hu
    | 1, _ => simpa [Comb.cells] using hu
    | 2, _ => simpa [Comb.cells] using hu
    | 3, _ => simpa [Comb.cells] using hu
⟩⟩
end Go.Proofs.YtpcdaoeijlifmaaDoor.OComb

/- loop.example/g01062/laws.rBig as a plain function, and the contract of the program's: where the plain one has an answer, the program has it. Conditions: slices read as lists. -/
namespace Go.Proofs.YtpcdaoeijlifmaaDoor.GlRBig
set_option linter.unusedVariables false
set_option linter.unusedSimpArgs false
open Go.RowKit
open Go.Proofs.YtpcdaoeijlifmaaDoor.Rowed Go.Proofs.YtpcdaoeijlifmaaDoor.Turn Go.Proofs.YtpcdaoeijlifmaaDoor.Aid Go.Proofs.YtpcdaoeijlifmaaDoor.GoP Go.Proofs.YtpcdaoeijlifmaaDoor.GoM

def P (code : (List Int)) : Option (Bool) :=
  letK (decide (65536 < (code.length : Int))) fun (t_3 : Bool) =>
  some t_3

set_option maxRecDepth 100000 in
set_option maxHeartbeats 2000000 in
theorem C (code : (List Int)) (A0 : Option Addr) (c0 : Nat)  (w : World) (M0 : Hid (Cells w 1 A0 code.length (Go.Proofs.YtpcdaoeijlifmaaDoor.GoC.u8s code))) (N0 : Hid (code.length ≤ 9223372036854775807)) (V0 : Hid (∀ z ∈ code, 0 ≤ z ∧ z ≤ 255))  {r : Bool} (H : Hid (P code = some r)) :
    Calls Tryd.prog 12 #[.slice A0 code.length c0] w (Gives (.bool r) w) := by
  have HB := Lib.hid (Below.refl w.heap.size w)
  unfold P at H
  have N0o := N0.out
  go_enter Tryd.func12, Tryd.ntmps12
  replace H := let_hid H
  obtain ⟨t_3, ht_3, H⟩ := H
  obtain rfl := ret_hid H
  go_wp2_with fail
  go_ret
  exact ⟨rfl, HB.out⟩

set_option maxRecDepth 100000 in
set_option maxHeartbeats 2000000 in
theorem C0 (code : (List Int)) (A0 : Option Addr) (c0 : Nat)  (w : World) (M0 : Hid (Cells w 1 A0 code.length (Go.Proofs.YtpcdaoeijlifmaaDoor.GoC.u8s code))) (N0 : Hid (code.length ≤ 9223372036854775807)) (V0 : Hid (∀ z ∈ code, 0 ≤ z ∧ z ≤ 255))  {r : Bool} (H : Hid (P code = some r)) :
    Calls Tryd.prog 12 #[.slice A0 code.length c0] w (fun e w'' => e = .returned (.bool r) ∧ w'' = w) := by
  have HB := Lib.hid (Below.refl w.heap.size w)
  unfold P at H
  have N0o := N0.out
  go_enter Tryd.func12, Tryd.ntmps12
  replace H := let_hid H
  obtain ⟨t_3, ht_3, H⟩ := H
  obtain rfl := ret_hid H
  go_wp2_with fail
  go_ret
  exact ⟨rfl, rfl⟩
end Go.Proofs.YtpcdaoeijlifmaaDoor.GlRBig

/- The drawing cursor's method next as a plain function on tapes. No condition. -/
namespace Go.Proofs.YtpcdaoeijlifmaaDoor.GsL1CurNext
set_option linter.unusedVariables false
open Go.RowKit
open Go.Proofs.YtpcdaoeijlifmaaDoor.GoC
def P (t : GoC.Tape) : Option (Int × GoC.Tape) := if 0 < t.left then some (t.vals 0, t.tail) else none
theorem C (t : GoC.Tape) (g : Nat) (A : Option Addr) (c b : Nat) (w : World) (K : Hid (CurIs w b g A c t)) {r : Int} {t' : GoC.Tape} (H : Hid (P t = some (r, t'))) :
    Calls Tryd.prog 89 #[.pointer (some ⟨g, 0, none⟩)] w (fun e w' => e = .returned (.int .i64 r) ∧ CurIs w' b g A c t' ∧ w.grownBy w' (Value.slice (some ⟨g, 0, none⟩) 1 1).ownBlock) := GoC.C t w b g A c K H
end Go.Proofs.YtpcdaoeijlifmaaDoor.GsL1CurNext

/- (*loop.example/g01062/spec.l1Cur).pick as a plain function, and the contract of the program's: where the plain one has an answer, the program has it. Conditions: slices read as lists. -/
namespace Go.Proofs.YtpcdaoeijlifmaaDoor.GsL1CurPick
set_option linter.unusedVariables false
set_option linter.unusedSimpArgs false
open Go.RowKit
open Go.Proofs.YtpcdaoeijlifmaaDoor.Rowed Go.Proofs.YtpcdaoeijlifmaaDoor.Turn Go.Proofs.YtpcdaoeijlifmaaDoor.Aid Go.Proofs.YtpcdaoeijlifmaaDoor.GoP Go.Proofs.YtpcdaoeijlifmaaDoor.GoM

def j0 (n_1 : Int) (s : Int × Go.Proofs.YtpcdaoeijlifmaaDoor.GoC.Tape) : Option (Int × Go.Proofs.YtpcdaoeijlifmaaDoor.GoC.Tape) :=
  unp2 s fun x_5j0 c0_c0j0 =>
  guardK (¬ (n_1 = 0)) <|
  letK (Int.tmod x_5j0 n_1) fun (t_17 : Int) =>
  some (t_17, c0_c0j0)

def P (c : Go.Proofs.YtpcdaoeijlifmaaDoor.GoC.Tape) (n_1 : Int) : Option (Int × Go.Proofs.YtpcdaoeijlifmaaDoor.GoC.Tape) :=
  letK (decide (n_1 ≤ 1)) fun (t_2 : Bool) =>
  iteK t_2
  (some (0, c))
  (bind2 (Go.Proofs.YtpcdaoeijlifmaaDoor.GsL1CurNext.P c) fun (t_5 : Int) (t_5_tp : Go.Proofs.YtpcdaoeijlifmaaDoor.GoC.Tape) =>
  letK (decide (200 < n_1)) fun (t_8 : Bool) =>
  iteK t_8
  (letK (IntKind.i64.wrap (t_5 * 256)) fun (t_10 : Int) =>
  bind2 (Go.Proofs.YtpcdaoeijlifmaaDoor.GsL1CurNext.P t_5_tp) fun (t_12 : Int) (t_12_tp : Go.Proofs.YtpcdaoeijlifmaaDoor.GoC.Tape) =>
  letK (IntKind.i64.wrap (t_10 + t_12)) fun (t_13 : Int) =>
  j0 n_1 (t_13, t_12_tp))
  (j0 n_1 (t_5, t_5_tp)))

set_option maxRecDepth 100000 in
set_option maxHeartbeats 2000000 in
theorem C (c : Go.Proofs.YtpcdaoeijlifmaaDoor.GoC.Tape) (n_1 : Int)   (g0 : Nat) (Ac0 : Option Addr) (cc0 : Nat) (bc0 : Nat) (w : World)   (K0 : Hid (Go.Proofs.YtpcdaoeijlifmaaDoor.GoC.CurIs w bc0 g0 Ac0 cc0 c)) {r : Int} {t_ : Go.Proofs.YtpcdaoeijlifmaaDoor.GoC.Tape} (H : Hid (P c n_1 = some (r, t_))) :
    Calls Tryd.prog 47 #[.pointer (some ⟨g0, 0, none⟩), .int .i64 n_1] w (fun e w' => e = .returned (.int .i64 r) ∧ Go.Proofs.YtpcdaoeijlifmaaDoor.GoC.CurIs w' bc0 g0 Ac0 cc0 t_ ∧ w.grownBy w' (Value.slice (some ⟨g0, 0, none⟩) 1 1).ownBlock) := by
  have HB := Lib.hid (Aid.grown_refl w (Value.slice (some ⟨g0, 0, none⟩) 1 1).ownBlock)
  unfold P at H
  have L0 : bc0 ≤ w.heap.size := by have := Go.Proofs.YtpcdaoeijlifmaaDoor.GoC.cur_lt K0.out; omega
  go_enter Tryd.func47, Tryd.ntmps47
  replace H := let_hid H
  obtain ⟨t_2, ht_2, H⟩ := H
  cases t_2 with
  | false =>
    replace H := ite_f H
    replace H := bind2_hid H
    obtain ⟨t_5, t_5_tp, qt_5, H⟩ := H
    go_wp2_with fail
    go_at_call 89
    refine (Go.Proofs.YtpcdaoeijlifmaaDoor.GsL1CurNext.C (c) (g0) (Ac0) (cc0) (bc0) _   K0 qt_5).mono ?_
    rintro e_t_5 wt_5 ⟨rfl, kt_5, gt_5⟩
    have Kt_5 := Lib.hid kt_5
    have Gt_5 : Hid (w.grownBy wt_5 (Value.slice (some ⟨g0, 0, none⟩) 1 1).ownBlock) := Lib.hid gt_5
    clear kt_5 gt_5
    have HBwt_5 := Lib.hid (Aid.grown_tr HB.out Gt_5.out)
    clear K0 Gt_5
    replace H := let_hid H
    obtain ⟨t_8, ht_8, H⟩ := H
    cases t_8 with
    | false =>
      replace H := ite_f H
      unfold j0 at H
      replace H := unp2_hid H
      replace H := guard_hid H
      obtain ⟨hz_t_17, H⟩ := H
      replace H := let_hid H
      obtain ⟨t_17, ht_17, H⟩ := H
      cases ret_hid H
      go_wp2_with fail
      go_ret
      exact ⟨rfl, Kt_5.out, HBwt_5.out⟩
    | true =>
      replace H := ite_t H
      replace H := let_hid H
      obtain ⟨t_10, ht_10, H⟩ := H
      replace H := bind2_hid H
      obtain ⟨t_12, t_12_tp, qt_12, H⟩ := H
      go_wp2_with fail
      go_at_call 89
      refine (Go.Proofs.YtpcdaoeijlifmaaDoor.GsL1CurNext.C (t_5_tp) (g0) (Ac0) (cc0) (bc0) _   Kt_5 qt_12).mono ?_
      rintro e_t_12 wt_12 ⟨rfl, kt_12, gt_12⟩
      have Kt_12 := Lib.hid kt_12
      have Gt_12 : Hid (wt_5.grownBy wt_12 (Value.slice (some ⟨g0, 0, none⟩) 1 1).ownBlock) := Lib.hid gt_12
      clear kt_12 gt_12
      have HBwt_12 := Lib.hid (Aid.grown_tr HBwt_5.out Gt_12.out)
      clear Kt_5 Gt_12
      replace H := let_hid H
      obtain ⟨t_13, ht_13, H⟩ := H
      unfold j0 at H
      replace H := unp2_hid H
      replace H := guard_hid H
      obtain ⟨hz_t_17, H⟩ := H
      replace H := let_hid H
      obtain ⟨t_17, ht_17, H⟩ := H
      cases ret_hid H
      go_wp2_with fail
      go_ret
      exact ⟨rfl, Kt_12.out, HBwt_12.out⟩
  | true =>
    replace H := ite_t H
    cases ret_hid H
    go_wp2_with fail
    go_ret
    exact ⟨rfl, K0.out, HB.out⟩
end Go.Proofs.YtpcdaoeijlifmaaDoor.GsL1CurPick

/- (*loop.example/g01062/spec.l1Cur).among as a plain function, and the contract of the program's: where the plain one has an answer, the program has it. Conditions: slices read as lists. -/
namespace Go.Proofs.YtpcdaoeijlifmaaDoor.GsL1CurAmong
set_option linter.unusedVariables false
set_option linter.unusedSimpArgs false
open Go.RowKit
open Go.Proofs.YtpcdaoeijlifmaaDoor.Rowed Go.Proofs.YtpcdaoeijlifmaaDoor.Turn Go.Proofs.YtpcdaoeijlifmaaDoor.Aid Go.Proofs.YtpcdaoeijlifmaaDoor.GoP Go.Proofs.YtpcdaoeijlifmaaDoor.GoM

def P (c : Go.Proofs.YtpcdaoeijlifmaaDoor.GoC.Tape) (list : (List Int)) : Option (Int × Go.Proofs.YtpcdaoeijlifmaaDoor.GoC.Tape) :=
  bind2 (Go.Proofs.YtpcdaoeijlifmaaDoor.GsL1CurPick.P c (list.length : Int)) fun (t_5 : Int) (t_5_tp : Go.Proofs.YtpcdaoeijlifmaaDoor.GoC.Tape) =>
  Option.bind (idx list t_5) fun (yt_6 : Int) =>
  some (yt_6, t_5_tp)

set_option maxRecDepth 100000 in
set_option maxHeartbeats 2000000 in
theorem C (c : Go.Proofs.YtpcdaoeijlifmaaDoor.GoC.Tape) (list : (List Int)) (A1 : Option Addr) (c1 : Nat)  (g0 : Nat) (Ac0 : Option Addr) (cc0 : Nat) (bc0 : Nat) (w : World) (M1 : Hid (Cells w 1 A1 list.length (Go.Proofs.YtpcdaoeijlifmaaDoor.HelpInt.iv list))) (N1 : Hid (list.length ≤ 9223372036854775807))  (K0 : Hid (Go.Proofs.YtpcdaoeijlifmaaDoor.GoC.CurIs w bc0 g0 Ac0 cc0 c)) (X1 : Hid (0 < list.length → Apart A1 (some ⟨g0, 0, none⟩))) {r : Int} {t_ : Go.Proofs.YtpcdaoeijlifmaaDoor.GoC.Tape} (H : Hid (P c list = some (r, t_))) :
    Calls Tryd.prog 46 #[.pointer (some ⟨g0, 0, none⟩), .slice A1 list.length c1] w (fun e w' => e = .returned (.int .i64 r) ∧ Go.Proofs.YtpcdaoeijlifmaaDoor.GoC.CurIs w' bc0 g0 Ac0 cc0 t_ ∧ w.grownBy w' (Value.slice (some ⟨g0, 0, none⟩) 1 1).ownBlock) := by
  have HB := Lib.hid (Aid.grown_refl w (Value.slice (some ⟨g0, 0, none⟩) 1 1).ownBlock)
  unfold P at H
  have N1o := N1.out
  have L0 : bc0 ≤ w.heap.size := by have := Go.Proofs.YtpcdaoeijlifmaaDoor.GoC.cur_lt K0.out; omega
  go_enter Tryd.func46, Tryd.ntmps46
  replace H := bind2_hid H
  obtain ⟨t_5, t_5_tp, qt_5, H⟩ := H
  go_wp2_with fail
  go_at_call 47
  refine (Go.Proofs.YtpcdaoeijlifmaaDoor.GsL1CurPick.C (c) ((list.length : Int)) (g0) (Ac0) (cc0) (bc0) _   K0 qt_5).mono ?_
  rintro e_t_5 wt_5 ⟨rfl, kt_5, gt_5⟩
  have Kt_5 := Lib.hid kt_5
  have Gt_5 : Hid (w.grownBy wt_5 (Value.slice (some ⟨g0, 0, none⟩) 1 1).ownBlock) := Lib.hid gt_5
  clear kt_5 gt_5
  have HBwt_5 := Lib.hid (Aid.grown_tr HB.out Gt_5.out)
  clear K0 Gt_5
  replace H := idx_hid H
  obtain ⟨nt_6, yt_6, et_6, lt_6, gt_6, H⟩ := H
  subst et_6
  obtain ⟨ab_t_6, ao_t_6, zt_6, At_6, z_t_6, ct_6_0⟩ := Go.Proofs.YtpcdaoeijlifmaaDoor.HelpInt.Ints.at_ M1.out lt_6
  obtain rfl := Option.some.inj (gt_6.out.symm.trans z_t_6)
  subst At_6
  have ltt_6 := cell_lt ct_6_0
  replace ct_6_0 := cell_other ct_6_0 HBwt_5.out (Go.Proofs.YtpcdaoeijlifmaaDoor.GoC.apart_x X1.out (by omega))
  clear z_t_6
  have b0t_6 : (0 : Int) ≤ (nt_6 : Int) := by omega
  have b1t_6 : (nt_6 : Int) < ((list.length : Nat) : Int) := by omega
  have b2t_6 : ((nt_6 : Int)).toNat = nt_6 := by omega
  cases ret_hid H
  go_wp2_with fail
  go_ret
  exact ⟨rfl, Kt_5.out, HBwt_5.out⟩
end Go.Proofs.YtpcdaoeijlifmaaDoor.GsL1CurAmong

/- (*loop.example/g01062/spec.l1Cur).gauge5 as a plain function, and the contract of the program's: where the plain one has an answer, the program has it. Conditions: slices read as lists. -/
namespace Go.Proofs.YtpcdaoeijlifmaaDoor.GsL1CurGauge5
set_option linter.unusedVariables false
set_option linter.unusedSimpArgs false
open Go.RowKit
open Go.Proofs.YtpcdaoeijlifmaaDoor.Rowed Go.Proofs.YtpcdaoeijlifmaaDoor.Turn Go.Proofs.YtpcdaoeijlifmaaDoor.Aid Go.Proofs.YtpcdaoeijlifmaaDoor.GoP Go.Proofs.YtpcdaoeijlifmaaDoor.GoM

def P (c : Go.Proofs.YtpcdaoeijlifmaaDoor.GoC.Tape) : Option (Int × Go.Proofs.YtpcdaoeijlifmaaDoor.GoC.Tape) :=
  letK ([500, 1100, 1150, 1175, 1200, 1400, 2000]) fun (t_2 : (List Int)) =>
  bind2 (Go.Proofs.YtpcdaoeijlifmaaDoor.GsL1CurAmong.P c t_2) fun (t_3 : Int) (t_3_tp : Go.Proofs.YtpcdaoeijlifmaaDoor.GoC.Tape) =>
  some (t_3, t_3_tp)

set_option maxRecDepth 100000 in
set_option maxHeartbeats 2000000 in
theorem C (c : Go.Proofs.YtpcdaoeijlifmaaDoor.GoC.Tape)   (g0 : Nat) (Ac0 : Option Addr) (cc0 : Nat) (bc0 : Nat) (w : World)   (K0 : Hid (Go.Proofs.YtpcdaoeijlifmaaDoor.GoC.CurIs w bc0 g0 Ac0 cc0 c)) {r : Int} {t_ : Go.Proofs.YtpcdaoeijlifmaaDoor.GoC.Tape} (H : Hid (P c = some (r, t_))) :
    Calls Tryd.prog 90 #[.pointer (some ⟨g0, 0, none⟩)] w (fun e w' => e = .returned (.int .i64 r) ∧ Go.Proofs.YtpcdaoeijlifmaaDoor.GoC.CurIs w' bc0 g0 Ac0 cc0 t_ ∧ w.grownBy w' (Value.slice (some ⟨g0, 0, none⟩) 1 1).ownBlock) := by
  have HB := Lib.hid (Aid.grown_refl w (Value.slice (some ⟨g0, 0, none⟩) 1 1).ownBlock)
  unfold P at H
  have L0 : bc0 ≤ w.heap.size := by have := Go.Proofs.YtpcdaoeijlifmaaDoor.GoC.cur_lt K0.out; omega
  go_enter Tryd.func90, Tryd.ntmps90
  replace H := let_hid H
  obtain ⟨t_2, ht_2, H⟩ := H
  obtain ⟨w_t_2, hw_t_2⟩ : ∃ x, w.alloc (.cells #[.int .i64 500, .int .i64 1100, .int .i64 1150, .int .i64 1175, .int .i64 1200, .int .i64 1400, .int .i64 2000] 3) = x := ⟨_, rfl⟩
  have bw_t_2 : Below w.heap.size w w_t_2 := by rw [← hw_t_2]; exact (Below.refl _ _).alloc (Nat.le_refl _) _
  have hs_t_2 := HB.out.size
  have nt_2 : t_2.length = 7 := by rw [← ht_2]; rfl
  have Ot_2 : Hid (w_t_2.ownsRow w.heap.size 3 1 (.slice (some ⟨w.heap.size, 0, none⟩) 7 7) 7 (Go.Proofs.YtpcdaoeijlifmaaDoor.HelpInt.iv t_2)) := by
    rw [← hw_t_2, ← ht_2]
    have e_ : ([.int .i64 500, .int .i64 1100, .int .i64 1150, .int .i64 1175, .int .i64 1200, .int .i64 1400, .int .i64 2000] : List Value) = (Go.Proofs.YtpcdaoeijlifmaaDoor.HelpInt.iv ([500, 1100, 1150, 1175, 1200, 1400, 2000] : List Int)) := rfl
    exact Lib.hid (own_laid (n := 7) hs_t_2 e_ rfl (by unfold maxLen; omega))
  clear hs_t_2
  have hht_2 := Lib.hid ht_2
  clear ht_2
  replace nt_2 := Lib.hid nt_2
  have Dt_2_c0 := Lib.hid (Go.Proofs.YtpcdaoeijlifmaaDoor.GoC.apart_cur K0.out)
  have HBw_t_2 := Lib.hid (grown_below HB.out bw_t_2)
  replace K0 := Lib.hid (Go.Proofs.YtpcdaoeijlifmaaDoor.GoC.cur_below K0.out bw_t_2)
  clear bw_t_2
  replace H := bind2_hid H
  obtain ⟨t_3, t_3_tp, qt_3, H⟩ := H
  go_wp2_with fail
  have hc_ := nt_2.out
  have hv_ : (Value.slice (some ⟨w.heap.size, 0, none⟩) 7 7 : Value) = Value.slice (some ⟨w.heap.size, 0, none⟩) t_2.length 7 := by rw [hc_]
  try rw [hv_]
  replace Ot_2 := Lib.hid (own_len hc_ Ot_2.out)
  clear hc_ hv_
  go_wp2_with fail
  go_at_call 46
  refine (Go.Proofs.YtpcdaoeijlifmaaDoor.GsL1CurAmong.C (c) (t_2) (some ⟨w.heap.size, 0, none⟩) 7 (g0) (Ac0) (cc0) (bc0) _   (Lib.hid (own_cells Ot_2.out)) (Lib.hid (own_max Ot_2.out)) K0 (Lib.hid (fun _ => Dt_2_c0.out)) qt_3).mono ?_
  rintro e_t_3 wt_3 ⟨rfl, kt_3, gt_3⟩
  have Kt_3 := Lib.hid kt_3
  have Gt_3 : Hid (w_t_2.grownBy wt_3 (Value.slice (some ⟨g0, 0, none⟩) 1 1).ownBlock) := Lib.hid gt_3
  clear kt_3 gt_3
  have HBwt_3 := Lib.hid (Aid.grown_tr HBw_t_2.out Gt_3.out)
  replace Ot_2 := Lib.hid (own_other Ot_2.out Gt_3.out (Apart.symm Dt_2_c0.out))
  clear K0 Gt_3
  cases ret_hid H
  go_wp2_with fail
  go_ret
  exact ⟨rfl, Kt_3.out, HBwt_3.out⟩
end Go.Proofs.YtpcdaoeijlifmaaDoor.GsL1CurGauge5

/- (*loop.example/g01062/spec.l1Cur).one as a plain function, and the contract of the program's: where the plain one has an answer, the program has it. Conditions: slices read as lists. -/
namespace Go.Proofs.YtpcdaoeijlifmaaDoor.GsL1CurOne
set_option linter.unusedVariables false
set_option linter.unusedSimpArgs false
open Go.RowKit
open Go.Proofs.YtpcdaoeijlifmaaDoor.Rowed Go.Proofs.YtpcdaoeijlifmaaDoor.Turn Go.Proofs.YtpcdaoeijlifmaaDoor.Aid Go.Proofs.YtpcdaoeijlifmaaDoor.GoP Go.Proofs.YtpcdaoeijlifmaaDoor.GoM

def P (c : Go.Proofs.YtpcdaoeijlifmaaDoor.GoC.Tape) (n_1 : Int) : Option (Bool × Go.Proofs.YtpcdaoeijlifmaaDoor.GoC.Tape) :=
  bind2 (Go.Proofs.YtpcdaoeijlifmaaDoor.GsL1CurPick.P c n_1) fun (t_3 : Int) (t_3_tp : Go.Proofs.YtpcdaoeijlifmaaDoor.GoC.Tape) =>
  letK (t_3 == 0) fun (t_4 : Bool) =>
  some (t_4, t_3_tp)

set_option maxRecDepth 100000 in
set_option maxHeartbeats 2000000 in
theorem C (c : Go.Proofs.YtpcdaoeijlifmaaDoor.GoC.Tape) (n_1 : Int)   (g0 : Nat) (Ac0 : Option Addr) (cc0 : Nat) (bc0 : Nat) (w : World)   (K0 : Hid (Go.Proofs.YtpcdaoeijlifmaaDoor.GoC.CurIs w bc0 g0 Ac0 cc0 c)) {r : Bool} {t_ : Go.Proofs.YtpcdaoeijlifmaaDoor.GoC.Tape} (H : Hid (P c n_1 = some (r, t_))) :
    Calls Tryd.prog 48 #[.pointer (some ⟨g0, 0, none⟩), .int .i64 n_1] w (fun e w' => e = .returned (.bool r) ∧ Go.Proofs.YtpcdaoeijlifmaaDoor.GoC.CurIs w' bc0 g0 Ac0 cc0 t_ ∧ w.grownBy w' (Value.slice (some ⟨g0, 0, none⟩) 1 1).ownBlock) := by
  have HB := Lib.hid (Aid.grown_refl w (Value.slice (some ⟨g0, 0, none⟩) 1 1).ownBlock)
  unfold P at H
  have L0 : bc0 ≤ w.heap.size := by have := Go.Proofs.YtpcdaoeijlifmaaDoor.GoC.cur_lt K0.out; omega
  go_enter Tryd.func48, Tryd.ntmps48
  replace H := bind2_hid H
  obtain ⟨t_3, t_3_tp, qt_3, H⟩ := H
  go_wp2_with fail
  go_at_call 47
  refine (Go.Proofs.YtpcdaoeijlifmaaDoor.GsL1CurPick.C (c) (n_1) (g0) (Ac0) (cc0) (bc0) _   K0 qt_3).mono ?_
  rintro e_t_3 wt_3 ⟨rfl, kt_3, gt_3⟩
  have Kt_3 := Lib.hid kt_3
  have Gt_3 : Hid (w.grownBy wt_3 (Value.slice (some ⟨g0, 0, none⟩) 1 1).ownBlock) := Lib.hid gt_3
  clear kt_3 gt_3
  have HBwt_3 := Lib.hid (Aid.grown_tr HB.out Gt_3.out)
  clear K0 Gt_3
  replace H := let_hid H
  obtain ⟨t_4, ht_4, H⟩ := H
  cases ret_hid H
  go_wp2_with fail
  go_ret
  exact ⟨rfl, Kt_3.out, HBwt_3.out⟩
end Go.Proofs.YtpcdaoeijlifmaaDoor.GsL1CurOne

/- (*loop.example/g01062/spec.l1Cur).comb5 as a plain function, and the contract of the program's: where the plain one has an answer, the program has it. Conditions: slices read as lists. -/
namespace Go.Proofs.YtpcdaoeijlifmaaDoor.GsL1CurComb5
set_option linter.unusedVariables false
set_option linter.unusedSimpArgs false
open Go.RowKit
open Go.Proofs.YtpcdaoeijlifmaaDoor.Rowed Go.Proofs.YtpcdaoeijlifmaaDoor.Turn Go.Proofs.YtpcdaoeijlifmaaDoor.Aid Go.Proofs.YtpcdaoeijlifmaaDoor.GoP Go.Proofs.YtpcdaoeijlifmaaDoor.GoM

def j0 (t_12_tp : Go.Proofs.YtpcdaoeijlifmaaDoor.GoC.Tape) (s : Int × Int × Int × Bool) : Option (Go.Proofs.YtpcdaoeijlifmaaDoor.PComb.Comb × Go.Proofs.YtpcdaoeijlifmaaDoor.GoC.Tape) :=
  unp4 s fun x_9_c0j0 x_9_c1j0 x_9_c2j0 x_9_c3j0 =>
  bind2 (Go.Proofs.YtpcdaoeijlifmaaDoor.GsL1CurPick.P t_12_tp 80) fun (t_18 : Int) (t_18_tp : Go.Proofs.YtpcdaoeijlifmaaDoor.GoC.Tape) =>
  letK (t_18 == 0) fun (t_19 : Bool) =>
  iteK t_19
  (letK ([0, 99, 100]) fun (t_22 : (List Int)) =>
  bind2 (Go.Proofs.YtpcdaoeijlifmaaDoor.GsL1CurAmong.P t_18_tp t_22) fun (t_23 : Int) (t_23_tp : Go.Proofs.YtpcdaoeijlifmaaDoor.GoC.Tape) =>
  some ((Go.Proofs.YtpcdaoeijlifmaaDoor.PComb.Comb.mk t_23 x_9_c1j0 x_9_c2j0 x_9_c3j0), t_23_tp))
  (letK (t_18 == 1) fun (t_26 : Bool) =>
  iteK t_26
  (letK ([499, 2001]) fun (t_29 : (List Int)) =>
  bind2 (Go.Proofs.YtpcdaoeijlifmaaDoor.GsL1CurAmong.P t_18_tp t_29) fun (t_30 : Int) (t_30_tp : Go.Proofs.YtpcdaoeijlifmaaDoor.GoC.Tape) =>
  some ((Go.Proofs.YtpcdaoeijlifmaaDoor.PComb.Comb.mk x_9_c0j0 t_30 x_9_c2j0 x_9_c3j0), t_30_tp))
  (letK (t_18 == 2) fun (t_33 : Bool) =>
  iteK t_33
  (letK ([499, 2001]) fun (t_36 : (List Int)) =>
  bind2 (Go.Proofs.YtpcdaoeijlifmaaDoor.GsL1CurAmong.P t_18_tp t_36) fun (t_37 : Int) (t_37_tp : Go.Proofs.YtpcdaoeijlifmaaDoor.GoC.Tape) =>
  some ((Go.Proofs.YtpcdaoeijlifmaaDoor.PComb.Comb.mk x_9_c0j0 x_9_c1j0 t_37 x_9_c3j0), t_37_tp))
  (some ((Go.Proofs.YtpcdaoeijlifmaaDoor.PComb.Comb.mk x_9_c0j0 x_9_c1j0 x_9_c2j0 x_9_c3j0), t_18_tp))))

def P (c : Go.Proofs.YtpcdaoeijlifmaaDoor.GoC.Tape) (id : Int) : Option (Go.Proofs.YtpcdaoeijlifmaaDoor.PComb.Comb × Go.Proofs.YtpcdaoeijlifmaaDoor.GoC.Tape) :=
  bind2 (Go.Proofs.YtpcdaoeijlifmaaDoor.GsL1CurGauge5.P c) fun (t_3 : Int) (t_3_tp : Go.Proofs.YtpcdaoeijlifmaaDoor.GoC.Tape) =>
  bind2 (Go.Proofs.YtpcdaoeijlifmaaDoor.GsL1CurGauge5.P t_3_tp) fun (t_5 : Int) (t_5_tp : Go.Proofs.YtpcdaoeijlifmaaDoor.GoC.Tape) =>
  bind2 (Go.Proofs.YtpcdaoeijlifmaaDoor.GsL1CurOne.P t_5_tp 3) fun (t_7 : Bool) (t_7_tp : Go.Proofs.YtpcdaoeijlifmaaDoor.GoC.Tape) =>
  bind2 (Go.Proofs.YtpcdaoeijlifmaaDoor.GsL1CurOne.P t_7_tp 3) fun (t_12 : Bool) (t_12_tp : Go.Proofs.YtpcdaoeijlifmaaDoor.GoC.Tape) =>
  iteK t_12
  (j0 t_12_tp (id, t_3, t_3, t_7))
  (j0 t_12_tp (id, t_3, t_5, t_7))

set_option maxRecDepth 100000 in
set_option maxHeartbeats 2000000 in
theorem C (c : Go.Proofs.YtpcdaoeijlifmaaDoor.GoC.Tape) (id : Int)   (g0 : Nat) (Ac0 : Option Addr) (cc0 : Nat) (bc0 : Nat) (w : World)   (K0 : Hid (Go.Proofs.YtpcdaoeijlifmaaDoor.GoC.CurIs w bc0 g0 Ac0 cc0 c)) {r : Go.Proofs.YtpcdaoeijlifmaaDoor.PComb.Comb} {t_ : Go.Proofs.YtpcdaoeijlifmaaDoor.GoC.Tape} (H : Hid (P c id = some (r, t_))) :
    Calls Tryd.prog 67 #[.pointer (some ⟨g0, 0, none⟩), .int .i64 id] w (fun e w' => e = .returned ((Go.Proofs.YtpcdaoeijlifmaaDoor.PComb.Comb.val r)) ∧ Go.Proofs.YtpcdaoeijlifmaaDoor.GoC.CurIs w' bc0 g0 Ac0 cc0 t_ ∧ w.grownBy w' (Value.slice (some ⟨g0, 0, none⟩) 1 1).ownBlock) := by
  have HB := Lib.hid (Aid.grown_refl w (Value.slice (some ⟨g0, 0, none⟩) 1 1).ownBlock)
  unfold P at H
  have L0 : bc0 ≤ w.heap.size := by have := Go.Proofs.YtpcdaoeijlifmaaDoor.GoC.cur_lt K0.out; omega
  go_enter Tryd.func67, Tryd.ntmps67
  obtain ⟨w_t_0, hw_t_0⟩ : ∃ x, w.alloc (.cells #[.int .i64 0, .int .i64 0, .int .i64 0, .bool false] 43) = x := ⟨_, rfl⟩
  have bw_t_0 : Below w.heap.size w w_t_0 := by rw [← hw_t_0]; exact (Below.refl _ _).alloc (Nat.le_refl _) _
  have Dt_0_c0 := Lib.hid (Go.Proofs.YtpcdaoeijlifmaaDoor.GoC.apart_cur K0.out)
  have HBw_t_0 := Lib.hid (grown_below HB.out bw_t_0)
  replace K0 := Lib.hid (Go.Proofs.YtpcdaoeijlifmaaDoor.GoC.cur_below K0.out bw_t_0)
  clear bw_t_0
  have kt_0_0 : w_t_0.cell? ⟨w.heap.size, 0, none⟩ = some (.int .i64 0) := by rw [← hw_t_0]; exact box_new _ _ _ 0 _ rfl
  have kt_0_1 : w_t_0.cell? ⟨w.heap.size, 1, none⟩ = some (.int .i64 0) := by rw [← hw_t_0]; exact box_new _ _ _ 1 _ rfl
  have kt_0_2 : w_t_0.cell? ⟨w.heap.size, 2, none⟩ = some (.int .i64 0) := by rw [← hw_t_0]; exact box_new _ _ _ 2 _ rfl
  have kt_0_3 : w_t_0.cell? ⟨w.heap.size, 3, none⟩ = some (.bool false) := by rw [← hw_t_0]; exact box_new _ _ _ 3 _ rfl
  have Ot_0 : Hid (w_t_0.ownsRow w.heap.size 43 4 (.slice (some ⟨w.heap.size, 0, none⟩) 1 1) 1 [.int .i64 0, .int .i64 0, .int .i64 0, .bool false]) := Lib.hid (by rw [← hw_t_0]; exact own_laid (n := 1) HB.out.size rfl rfl (by unfold maxLen; omega))
  replace H := bind2_hid H
  obtain ⟨t_3, t_3_tp, qt_3, H⟩ := H
  go_wp2_with fail
  go_at_call 90
  refine (Go.Proofs.YtpcdaoeijlifmaaDoor.GsL1CurGauge5.C (c) (g0) (Ac0) (cc0) (bc0) _   K0 qt_3).mono ?_
  rintro e_t_3 wt_3 ⟨rfl, kt_3, gt_3⟩
  have Kt_3 := Lib.hid kt_3
  have Gt_3 : Hid (w_t_0.grownBy wt_3 (Value.slice (some ⟨g0, 0, none⟩) 1 1).ownBlock) := Lib.hid gt_3
  clear kt_3 gt_3
  have HBwt_3 := Lib.hid (Aid.grown_tr HBw_t_0.out Gt_3.out)
  replace kt_0_0 := cell_other kt_0_0 Gt_3.out (Apart.symm Dt_0_c0.out)
  replace kt_0_1 := cell_other kt_0_1 Gt_3.out (Apart.symm Dt_0_c0.out)
  replace kt_0_2 := cell_other kt_0_2 Gt_3.out (Apart.symm Dt_0_c0.out)
  replace kt_0_3 := cell_other kt_0_3 Gt_3.out (Apart.symm Dt_0_c0.out)
  replace Ot_0 := Lib.hid (own_other Ot_0.out Gt_3.out (Apart.symm Dt_0_c0.out))
  clear K0 Gt_3
  replace H := bind2_hid H
  obtain ⟨t_5, t_5_tp, qt_5, H⟩ := H
  go_wp2_with fail
  go_at_call 90
  refine (Go.Proofs.YtpcdaoeijlifmaaDoor.GsL1CurGauge5.C (t_3_tp) (g0) (Ac0) (cc0) (bc0) _   Kt_3 qt_5).mono ?_
  rintro e_t_5 wt_5 ⟨rfl, kt_5, gt_5⟩
  have Kt_5 := Lib.hid kt_5
  have Gt_5 : Hid (wt_3.grownBy wt_5 (Value.slice (some ⟨g0, 0, none⟩) 1 1).ownBlock) := Lib.hid gt_5
  clear kt_5 gt_5
  have HBwt_5 := Lib.hid (Aid.grown_tr HBwt_3.out Gt_5.out)
  replace kt_0_0 := cell_other kt_0_0 Gt_5.out (Apart.symm Dt_0_c0.out)
  replace kt_0_1 := cell_other kt_0_1 Gt_5.out (Apart.symm Dt_0_c0.out)
  replace kt_0_2 := cell_other kt_0_2 Gt_5.out (Apart.symm Dt_0_c0.out)
  replace kt_0_3 := cell_other kt_0_3 Gt_5.out (Apart.symm Dt_0_c0.out)
  replace Ot_0 := Lib.hid (own_other Ot_0.out Gt_5.out (Apart.symm Dt_0_c0.out))
  clear Kt_3 Gt_5
  replace H := bind2_hid H
  obtain ⟨t_7, t_7_tp, qt_7, H⟩ := H
  go_wp2_with fail
  go_at_call 48
  refine (Go.Proofs.YtpcdaoeijlifmaaDoor.GsL1CurOne.C (t_5_tp) (3) (g0) (Ac0) (cc0) (bc0) _   Kt_5 qt_7).mono ?_
  rintro e_t_7 wt_7 ⟨rfl, kt_7, gt_7⟩
  have Kt_7 := Lib.hid kt_7
  have Gt_7 : Hid (wt_5.grownBy wt_7 (Value.slice (some ⟨g0, 0, none⟩) 1 1).ownBlock) := Lib.hid gt_7
  clear kt_7 gt_7
  have HBwt_7 := Lib.hid (Aid.grown_tr HBwt_5.out Gt_7.out)
  replace kt_0_0 := cell_other kt_0_0 Gt_7.out (Apart.symm Dt_0_c0.out)
  replace kt_0_1 := cell_other kt_0_1 Gt_7.out (Apart.symm Dt_0_c0.out)
  replace kt_0_2 := cell_other kt_0_2 Gt_7.out (Apart.symm Dt_0_c0.out)
  replace kt_0_3 := cell_other kt_0_3 Gt_7.out (Apart.symm Dt_0_c0.out)
  replace Ot_0 := Lib.hid (own_other Ot_0.out Gt_7.out (Apart.symm Dt_0_c0.out))
  clear Kt_5 Gt_7
  obtain ⟨w_x_9, hw_x_9⟩ : ∃ x, wt_7.alloc (.cells #[.int .i64 id, .int .i64 t_3, .int .i64 t_5, .bool t_7] 43) = x := ⟨_, rfl⟩
  have bw_x_9 : Below wt_7.heap.size wt_7 w_x_9 := by rw [← hw_x_9]; exact (Below.refl _ _).alloc (Nat.le_refl _) _
  have Dx_9_c0 := Lib.hid (Go.Proofs.YtpcdaoeijlifmaaDoor.GoC.apart_cur Kt_7.out)
  have Dx_9_t_0 := Lib.hid (apart_box kt_0_0)
  have HBw_x_9 := Lib.hid (grown_below HBwt_7.out bw_x_9)
  have kt_0_0__1 := cell_below bw_x_9 kt_0_0
  have kt_0_1__2 := cell_below bw_x_9 kt_0_1
  have kt_0_2__3 := cell_below bw_x_9 kt_0_2
  have kt_0_3__4 := cell_below bw_x_9 kt_0_3
  replace Kt_7 := Lib.hid (Go.Proofs.YtpcdaoeijlifmaaDoor.GoC.cur_below Kt_7.out bw_x_9)
  replace Ot_0 := Lib.hid (own_below Ot_0.out bw_x_9)
  clear bw_x_9
  have kx_9_0 : w_x_9.cell? ⟨wt_7.heap.size, 0, none⟩ = some (.int .i64 id) := by rw [← hw_x_9]; exact box_new _ _ _ 0 _ rfl
  have kx_9_1 : w_x_9.cell? ⟨wt_7.heap.size, 1, none⟩ = some (.int .i64 t_3) := by rw [← hw_x_9]; exact box_new _ _ _ 1 _ rfl
  have kx_9_2 : w_x_9.cell? ⟨wt_7.heap.size, 2, none⟩ = some (.int .i64 t_5) := by rw [← hw_x_9]; exact box_new _ _ _ 2 _ rfl
  have kx_9_3 : w_x_9.cell? ⟨wt_7.heap.size, 3, none⟩ = some (.bool t_7) := by rw [← hw_x_9]; exact box_new _ _ _ 3 _ rfl
  have Ox_9 : Hid (w_x_9.ownsRow w.heap.size 43 4 (.slice (some ⟨wt_7.heap.size, 0, none⟩) 1 1) 1 [.int .i64 id, .int .i64 t_3, .int .i64 t_5, .bool t_7]) := Lib.hid (by rw [← hw_x_9]; exact own_laid (n := 1) HBwt_7.out.size rfl rfl (by unfold maxLen; omega))
  replace H := bind2_hid H
  obtain ⟨t_12, t_12_tp, qt_12, H⟩ := H
  go_wp2_with fail
  clear kt_0_0 kt_0_1 kt_0_2 kt_0_3
  go_at_call 48
  refine (Go.Proofs.YtpcdaoeijlifmaaDoor.GsL1CurOne.C (t_7_tp) (3) (g0) (Ac0) (cc0) (bc0) _   Kt_7 qt_12).mono ?_
  rintro e_t_12 wt_12 ⟨rfl, kt_12, gt_12⟩
  have Kt_12 := Lib.hid kt_12
  have Gt_12 : Hid (w_x_9.grownBy wt_12 (Value.slice (some ⟨g0, 0, none⟩) 1 1).ownBlock) := Lib.hid gt_12
  clear kt_12 gt_12
  have HBwt_12 := Lib.hid (Aid.grown_tr HBw_x_9.out Gt_12.out)
  replace kt_0_0__1 := cell_other kt_0_0__1 Gt_12.out (Apart.symm Dt_0_c0.out)
  replace kt_0_1__2 := cell_other kt_0_1__2 Gt_12.out (Apart.symm Dt_0_c0.out)
  replace kt_0_2__3 := cell_other kt_0_2__3 Gt_12.out (Apart.symm Dt_0_c0.out)
  replace kt_0_3__4 := cell_other kt_0_3__4 Gt_12.out (Apart.symm Dt_0_c0.out)
  replace kx_9_0 := cell_other kx_9_0 Gt_12.out (Apart.symm Dx_9_c0.out)
  replace kx_9_1 := cell_other kx_9_1 Gt_12.out (Apart.symm Dx_9_c0.out)
  replace kx_9_2 := cell_other kx_9_2 Gt_12.out (Apart.symm Dx_9_c0.out)
  replace kx_9_3 := cell_other kx_9_3 Gt_12.out (Apart.symm Dx_9_c0.out)
  replace Ot_0 := Lib.hid (own_other Ot_0.out Gt_12.out (Apart.symm Dt_0_c0.out))
  replace Ox_9 := Lib.hid (own_other Ox_9.out Gt_12.out (Apart.symm Dx_9_c0.out))
  clear Kt_7 Gt_12
  cases t_12 with
  | false =>
    replace H := ite_f H
    unfold j0 at H
    replace H := unp4_hid H
    replace H := bind2_hid H
    obtain ⟨t_18, t_18_tp, qt_18, H⟩ := H
    go_wp2_with fail
    go_at_call 47
    refine (Go.Proofs.YtpcdaoeijlifmaaDoor.GsL1CurPick.C (t_12_tp) (80) (g0) (Ac0) (cc0) (bc0) _   Kt_12 qt_18).mono ?_
    rintro e_t_18 wt_18 ⟨rfl, kt_18, gt_18⟩
    have Kt_18 := Lib.hid kt_18
    have Gt_18 : Hid (wt_12.grownBy wt_18 (Value.slice (some ⟨g0, 0, none⟩) 1 1).ownBlock) := Lib.hid gt_18
    clear kt_18 gt_18
    have HBwt_18 := Lib.hid (Aid.grown_tr HBwt_12.out Gt_18.out)
    replace kt_0_0__1 := cell_other kt_0_0__1 Gt_18.out (Apart.symm Dt_0_c0.out)
    replace kt_0_1__2 := cell_other kt_0_1__2 Gt_18.out (Apart.symm Dt_0_c0.out)
    replace kt_0_2__3 := cell_other kt_0_2__3 Gt_18.out (Apart.symm Dt_0_c0.out)
    replace kt_0_3__4 := cell_other kt_0_3__4 Gt_18.out (Apart.symm Dt_0_c0.out)
    replace kx_9_0 := cell_other kx_9_0 Gt_18.out (Apart.symm Dx_9_c0.out)
    replace kx_9_1 := cell_other kx_9_1 Gt_18.out (Apart.symm Dx_9_c0.out)
    replace kx_9_2 := cell_other kx_9_2 Gt_18.out (Apart.symm Dx_9_c0.out)
    replace kx_9_3 := cell_other kx_9_3 Gt_18.out (Apart.symm Dx_9_c0.out)
    replace Ot_0 := Lib.hid (own_other Ot_0.out Gt_18.out (Apart.symm Dt_0_c0.out))
    replace Ox_9 := Lib.hid (own_other Ox_9.out Gt_18.out (Apart.symm Dx_9_c0.out))
    clear Kt_12 Gt_18
    replace H := let_hid H
    obtain ⟨t_19, ht_19, H⟩ := H
    cases t_19 with
    | false =>
      replace H := ite_f H
      replace H := let_hid H
      obtain ⟨t_26, ht_26, H⟩ := H
      cases t_26 with
      | false =>
        replace H := ite_f H
        replace H := let_hid H
        obtain ⟨t_33, ht_33, H⟩ := H
        cases t_33 with
        | false =>
          replace H := ite_f H
          obtain ⟨wb41_41, hwb41_41⟩ : ∃ x, ((((wt_18).setCell ⟨w.heap.size, 0, none⟩ (.int .i64 id)).setCell ⟨w.heap.size, 1, none⟩ (.int .i64 t_3)).setCell ⟨w.heap.size, 2, none⟩ (.int .i64 t_5)).setCell ⟨w.heap.size, 3, none⟩ (.bool t_7) = x := ⟨_, rfl⟩
          have z0b41_41 := Ot_0.out.frozenAt 0
          have z1b41_41 := Ot_0.out.frozenAt 1
          have z2b41_41 := Ot_0.out.frozenAt 2
          have z3b41_41 := Ot_0.out.frozenAt 3
          have Sb41_41 := Lib.hid (own_stores [(0, .int .i64 id), (1, .int .i64 t_3), (2, .int .i64 t_5), (3, .bool t_7)] Ot_0.out)
          have Pb41_41 : Hid (wb41_41.ownsRow w.heap.size 43 4 (.slice (some ⟨w.heap.size, 0, none⟩) 1 1) 1 [.int .i64 id, .int .i64 t_3, .int .i64 t_5, .bool t_7]) := Lib.hid (by rw [← hwb41_41]; exact Sb41_41.out.1)
          have Gb41_41 : Hid (wt_18.grownBy wb41_41 (Value.slice (some ⟨w.heap.size, 0, none⟩) 1 1).ownBlock) := Lib.hid (by rw [← hwb41_41]; exact Sb41_41.out.2)
          have HBwb41_41 := Lib.hid (Go.Proofs.YtpcdaoeijlifmaaDoor.GoC.grown_new HBwt_18.out Gb41_41.out (Go.Proofs.YtpcdaoeijlifmaaDoor.GoC.own_ge Ot_0.out))
          clear Sb41_41
          have kx_9_0__5 := cell_other kx_9_0 Gb41_41.out (Apart.symm Dx_9_t_0.out)
          have kx_9_1__6 := cell_other kx_9_1 Gb41_41.out (Apart.symm Dx_9_t_0.out)
          have kx_9_2__7 := cell_other kx_9_2 Gb41_41.out (Apart.symm Dx_9_t_0.out)
          have kx_9_3__8 := cell_other kx_9_3 Gb41_41.out (Apart.symm Dx_9_t_0.out)
          replace Ox_9 := Lib.hid (own_other Ox_9.out Gb41_41.out (Apart.symm Dx_9_t_0.out))
          replace Kt_18 := Lib.hid (Go.Proofs.YtpcdaoeijlifmaaDoor.GoC.cur_other Kt_18.out Gb41_41.out Dt_0_c0.out (fun a_ e_ => Nat.le_trans L0 (Go.Proofs.YtpcdaoeijlifmaaDoor.GoC.own_ge Ot_0.out a_ e_)))
          clear Ot_0 Gb41_41
          have kt_0_0__9 : wb41_41.cell? ⟨w.heap.size, 0, none⟩ = some (.int .i64 id) := Pb41_41.out.cells rfl 0 _ rfl
          have kt_0_1__10 : wb41_41.cell? ⟨w.heap.size, 1, none⟩ = some (.int .i64 t_3) := Pb41_41.out.cells rfl 1 _ rfl
          have kt_0_2__11 : wb41_41.cell? ⟨w.heap.size, 2, none⟩ = some (.int .i64 t_5) := Pb41_41.out.cells rfl 2 _ rfl
          have kt_0_3__12 : wb41_41.cell? ⟨w.heap.size, 3, none⟩ = some (.bool t_7) := Pb41_41.out.cells rfl 3 _ rfl
          cases ret_hid H
          go_wp2_with fail
          (try simp only [Exit.inBlock, Exit.then])
          refine bodyPost_ret (v := .agg #[.int .i64 id, .int .i64 t_3, .int .i64 t_5, .bool t_7]) ?hr_ ?hd_ ?_
          case hd_ => rfl
          case hr_ => simp [results, Tryd.results67, kt_0_0__9, kt_0_1__10, kt_0_2__11, kt_0_3__12, go_sem]
          exact ⟨rfl, Kt_18.out, HBwb41_41.out⟩
        | true =>
          replace H := ite_t H
          replace H := let_hid H
          obtain ⟨t_36, ht_36, H⟩ := H
          obtain ⟨w_t_36, hw_t_36⟩ : ∃ x, wt_18.alloc (.cells #[.int .i64 499, .int .i64 2001] 3) = x := ⟨_, rfl⟩
          have bw_t_36 : Below wt_18.heap.size wt_18 w_t_36 := by rw [← hw_t_36]; exact (Below.refl _ _).alloc (Nat.le_refl _) _
          have hs_t_36 := HBwt_18.out.size
          have nt_36 : t_36.length = 2 := by rw [← ht_36]; rfl
          have Ot_36 : Hid (w_t_36.ownsRow w.heap.size 3 1 (.slice (some ⟨wt_18.heap.size, 0, none⟩) 2 2) 2 (Go.Proofs.YtpcdaoeijlifmaaDoor.HelpInt.iv t_36)) := by
            rw [← hw_t_36, ← ht_36]
            have e_ : ([.int .i64 499, .int .i64 2001] : List Value) = (Go.Proofs.YtpcdaoeijlifmaaDoor.HelpInt.iv ([499, 2001] : List Int)) := rfl
            exact Lib.hid (own_laid (n := 2) hs_t_36 e_ rfl (by unfold maxLen; omega))
          clear hs_t_36
          have hht_36 := Lib.hid ht_36
          clear ht_36
          replace nt_36 := Lib.hid nt_36
          have Dt_36_c0 := Lib.hid (Go.Proofs.YtpcdaoeijlifmaaDoor.GoC.apart_cur Kt_18.out)
          have Dt_36_t_0 := Lib.hid (apart_box kt_0_0__1)
          have Dt_36_x_9 := Lib.hid (apart_box kx_9_0)
          have HBw_t_36 := Lib.hid (grown_below HBwt_18.out bw_t_36)
          have kt_0_0__13 := cell_below bw_t_36 kt_0_0__1
          have kt_0_1__14 := cell_below bw_t_36 kt_0_1__2
          have kt_0_2__15 := cell_below bw_t_36 kt_0_2__3
          have kt_0_3__16 := cell_below bw_t_36 kt_0_3__4
          have kx_9_0__17 := cell_below bw_t_36 kx_9_0
          have kx_9_1__18 := cell_below bw_t_36 kx_9_1
          have kx_9_2__19 := cell_below bw_t_36 kx_9_2
          have kx_9_3__20 := cell_below bw_t_36 kx_9_3
          replace Kt_18 := Lib.hid (Go.Proofs.YtpcdaoeijlifmaaDoor.GoC.cur_below Kt_18.out bw_t_36)
          replace Ot_0 := Lib.hid (own_below Ot_0.out bw_t_36)
          replace Ox_9 := Lib.hid (own_below Ox_9.out bw_t_36)
          clear bw_t_36
          replace H := bind2_hid H
          obtain ⟨t_37, t_37_tp, qt_37, H⟩ := H
          go_wp2_with fail
          clear kt_0_0__1 kt_0_1__2 kt_0_2__3 kt_0_3__4 kx_9_0 kx_9_1 kx_9_2 kx_9_3
          have hc_ := nt_36.out
          have hv_ : (Value.slice (some ⟨wt_18.heap.size, 0, none⟩) 2 2 : Value) = Value.slice (some ⟨wt_18.heap.size, 0, none⟩) t_36.length 2 := by rw [hc_]
          try rw [hv_]
          replace Ot_36 := Lib.hid (own_len hc_ Ot_36.out)
          clear hc_ hv_
          go_wp2_with fail
          go_at_call 46
          refine (Go.Proofs.YtpcdaoeijlifmaaDoor.GsL1CurAmong.C (t_18_tp) (t_36) (some ⟨wt_18.heap.size, 0, none⟩) 2 (g0) (Ac0) (cc0) (bc0) _   (Lib.hid (own_cells Ot_36.out)) (Lib.hid (own_max Ot_36.out)) Kt_18 (Lib.hid (fun _ => Dt_36_c0.out)) qt_37).mono ?_
          rintro e_t_37 wt_37 ⟨rfl, kt_37, gt_37⟩
          have Kt_37 := Lib.hid kt_37
          have Gt_37 : Hid (w_t_36.grownBy wt_37 (Value.slice (some ⟨g0, 0, none⟩) 1 1).ownBlock) := Lib.hid gt_37
          clear kt_37 gt_37
          have HBwt_37 := Lib.hid (Aid.grown_tr HBw_t_36.out Gt_37.out)
          replace kt_0_0__13 := cell_other kt_0_0__13 Gt_37.out (Apart.symm Dt_0_c0.out)
          replace kt_0_1__14 := cell_other kt_0_1__14 Gt_37.out (Apart.symm Dt_0_c0.out)
          replace kt_0_2__15 := cell_other kt_0_2__15 Gt_37.out (Apart.symm Dt_0_c0.out)
          replace kt_0_3__16 := cell_other kt_0_3__16 Gt_37.out (Apart.symm Dt_0_c0.out)
          replace kx_9_0__17 := cell_other kx_9_0__17 Gt_37.out (Apart.symm Dx_9_c0.out)
          replace kx_9_1__18 := cell_other kx_9_1__18 Gt_37.out (Apart.symm Dx_9_c0.out)
          replace kx_9_2__19 := cell_other kx_9_2__19 Gt_37.out (Apart.symm Dx_9_c0.out)
          replace kx_9_3__20 := cell_other kx_9_3__20 Gt_37.out (Apart.symm Dx_9_c0.out)
          replace Ot_0 := Lib.hid (own_other Ot_0.out Gt_37.out (Apart.symm Dt_0_c0.out))
          replace Ox_9 := Lib.hid (own_other Ox_9.out Gt_37.out (Apart.symm Dx_9_c0.out))
          replace Ot_36 := Lib.hid (own_other Ot_36.out Gt_37.out (Apart.symm Dt_36_c0.out))
          clear Kt_18 Gt_37
          obtain ⟨wb39_39, hwb39_39⟩ : ∃ x, (wt_37).setCell ⟨wt_7.heap.size, 2, none⟩ (.int .i64 t_37) = x := ⟨_, rfl⟩
          have z0b39_39 := Ox_9.out.frozenAt 2
          have Sb39_39 := Lib.hid (own_stores [(2, .int .i64 t_37)] Ox_9.out)
          have Pb39_39 : Hid (wb39_39.ownsRow w.heap.size 43 4 (.slice (some ⟨wt_7.heap.size, 0, none⟩) 1 1) 1 [.int .i64 id, .int .i64 t_3, .int .i64 t_37, .bool t_7]) := Lib.hid (by rw [← hwb39_39]; exact Sb39_39.out.1)
          have Gb39_39 : Hid (wt_37.grownBy wb39_39 (Value.slice (some ⟨wt_7.heap.size, 0, none⟩) 1 1).ownBlock) := Lib.hid (by rw [← hwb39_39]; exact Sb39_39.out.2)
          have HBwb39_39 := Lib.hid (Go.Proofs.YtpcdaoeijlifmaaDoor.GoC.grown_new HBwt_37.out Gb39_39.out (Go.Proofs.YtpcdaoeijlifmaaDoor.GoC.own_ge Ox_9.out))
          clear Sb39_39
          have kt_0_0__21 := cell_other kt_0_0__13 Gb39_39.out Dx_9_t_0.out
          have kt_0_1__22 := cell_other kt_0_1__14 Gb39_39.out Dx_9_t_0.out
          have kt_0_2__23 := cell_other kt_0_2__15 Gb39_39.out Dx_9_t_0.out
          have kt_0_3__24 := cell_other kt_0_3__16 Gb39_39.out Dx_9_t_0.out
          replace Ot_0 := Lib.hid (own_other Ot_0.out Gb39_39.out Dx_9_t_0.out)
          replace Ot_36 := Lib.hid (own_other Ot_36.out Gb39_39.out (Apart.symm Dt_36_x_9.out))
          replace Kt_37 := Lib.hid (Go.Proofs.YtpcdaoeijlifmaaDoor.GoC.cur_other Kt_37.out Gb39_39.out Dx_9_c0.out (fun a_ e_ => Nat.le_trans L0 (Go.Proofs.YtpcdaoeijlifmaaDoor.GoC.own_ge Ox_9.out a_ e_)))
          clear Ox_9 Gb39_39
          have kx_9_0__25 : wb39_39.cell? ⟨wt_7.heap.size, 0, none⟩ = some (.int .i64 id) := Pb39_39.out.cells rfl 0 _ rfl
          have kx_9_1__26 : wb39_39.cell? ⟨wt_7.heap.size, 1, none⟩ = some (.int .i64 t_3) := Pb39_39.out.cells rfl 1 _ rfl
          have kx_9_2__27 : wb39_39.cell? ⟨wt_7.heap.size, 2, none⟩ = some (.int .i64 t_37) := Pb39_39.out.cells rfl 2 _ rfl
          have kx_9_3__28 : wb39_39.cell? ⟨wt_7.heap.size, 3, none⟩ = some (.bool t_7) := Pb39_39.out.cells rfl 3 _ rfl
          obtain ⟨wb41_41, hwb41_41⟩ : ∃ x, ((((wb39_39).setCell ⟨w.heap.size, 0, none⟩ (.int .i64 id)).setCell ⟨w.heap.size, 1, none⟩ (.int .i64 t_3)).setCell ⟨w.heap.size, 2, none⟩ (.int .i64 t_37)).setCell ⟨w.heap.size, 3, none⟩ (.bool t_7) = x := ⟨_, rfl⟩
          have z0b41_41 := Ot_0.out.frozenAt 0
          have z1b41_41 := Ot_0.out.frozenAt 1
          have z2b41_41 := Ot_0.out.frozenAt 2
          have z3b41_41 := Ot_0.out.frozenAt 3
          have Sb41_41 := Lib.hid (own_stores [(0, .int .i64 id), (1, .int .i64 t_3), (2, .int .i64 t_37), (3, .bool t_7)] Ot_0.out)
          have Pb41_41 : Hid (wb41_41.ownsRow w.heap.size 43 4 (.slice (some ⟨w.heap.size, 0, none⟩) 1 1) 1 [.int .i64 id, .int .i64 t_3, .int .i64 t_37, .bool t_7]) := Lib.hid (by rw [← hwb41_41]; exact Sb41_41.out.1)
          have Gb41_41 : Hid (wb39_39.grownBy wb41_41 (Value.slice (some ⟨w.heap.size, 0, none⟩) 1 1).ownBlock) := Lib.hid (by rw [← hwb41_41]; exact Sb41_41.out.2)
          have HBwb41_41 := Lib.hid (Go.Proofs.YtpcdaoeijlifmaaDoor.GoC.grown_new HBwb39_39.out Gb41_41.out (Go.Proofs.YtpcdaoeijlifmaaDoor.GoC.own_ge Ot_0.out))
          clear Sb41_41
          have kx_9_0__29 := cell_other kx_9_0__25 Gb41_41.out (Apart.symm Dx_9_t_0.out)
          have kx_9_1__30 := cell_other kx_9_1__26 Gb41_41.out (Apart.symm Dx_9_t_0.out)
          have kx_9_2__31 := cell_other kx_9_2__27 Gb41_41.out (Apart.symm Dx_9_t_0.out)
          have kx_9_3__32 := cell_other kx_9_3__28 Gb41_41.out (Apart.symm Dx_9_t_0.out)
          replace Pb39_39 := Lib.hid (own_other Pb39_39.out Gb41_41.out (Apart.symm Dx_9_t_0.out))
          replace Ot_36 := Lib.hid (own_other Ot_36.out Gb41_41.out (Apart.symm Dt_36_t_0.out))
          replace Kt_37 := Lib.hid (Go.Proofs.YtpcdaoeijlifmaaDoor.GoC.cur_other Kt_37.out Gb41_41.out Dt_0_c0.out (fun a_ e_ => Nat.le_trans L0 (Go.Proofs.YtpcdaoeijlifmaaDoor.GoC.own_ge Ot_0.out a_ e_)))
          clear Ot_0 Gb41_41
          have kt_0_0__33 : wb41_41.cell? ⟨w.heap.size, 0, none⟩ = some (.int .i64 id) := Pb41_41.out.cells rfl 0 _ rfl
          have kt_0_1__34 : wb41_41.cell? ⟨w.heap.size, 1, none⟩ = some (.int .i64 t_3) := Pb41_41.out.cells rfl 1 _ rfl
          have kt_0_2__35 : wb41_41.cell? ⟨w.heap.size, 2, none⟩ = some (.int .i64 t_37) := Pb41_41.out.cells rfl 2 _ rfl
          have kt_0_3__36 : wb41_41.cell? ⟨w.heap.size, 3, none⟩ = some (.bool t_7) := Pb41_41.out.cells rfl 3 _ rfl
          cases ret_hid H
          go_wp2_with fail
          (try simp only [Exit.inBlock, Exit.then])
          refine bodyPost_ret (v := .agg #[.int .i64 id, .int .i64 t_3, .int .i64 t_37, .bool t_7]) ?hr_ ?hd_ ?_
          case hd_ => rfl
          case hr_ => simp [results, Tryd.results67, kt_0_0__33, kt_0_1__34, kt_0_2__35, kt_0_3__36, go_sem]
          exact ⟨rfl, Kt_37.out, HBwb41_41.out⟩
      | true =>
        replace H := ite_t H
        replace H := let_hid H
        obtain ⟨t_29, ht_29, H⟩ := H
        obtain ⟨w_t_29, hw_t_29⟩ : ∃ x, wt_18.alloc (.cells #[.int .i64 499, .int .i64 2001] 3) = x := ⟨_, rfl⟩
        have bw_t_29 : Below wt_18.heap.size wt_18 w_t_29 := by rw [← hw_t_29]; exact (Below.refl _ _).alloc (Nat.le_refl _) _
        have hs_t_29 := HBwt_18.out.size
        have nt_29 : t_29.length = 2 := by rw [← ht_29]; rfl
        have Ot_29 : Hid (w_t_29.ownsRow w.heap.size 3 1 (.slice (some ⟨wt_18.heap.size, 0, none⟩) 2 2) 2 (Go.Proofs.YtpcdaoeijlifmaaDoor.HelpInt.iv t_29)) := by
          rw [← hw_t_29, ← ht_29]
          have e_ : ([.int .i64 499, .int .i64 2001] : List Value) = (Go.Proofs.YtpcdaoeijlifmaaDoor.HelpInt.iv ([499, 2001] : List Int)) := rfl
          exact Lib.hid (own_laid (n := 2) hs_t_29 e_ rfl (by unfold maxLen; omega))
        clear hs_t_29
        have hht_29 := Lib.hid ht_29
        clear ht_29
        replace nt_29 := Lib.hid nt_29
        have Dt_29_c0 := Lib.hid (Go.Proofs.YtpcdaoeijlifmaaDoor.GoC.apart_cur Kt_18.out)
        have Dt_29_t_0 := Lib.hid (apart_box kt_0_0__1)
        have Dt_29_x_9 := Lib.hid (apart_box kx_9_0)
        have HBw_t_29 := Lib.hid (grown_below HBwt_18.out bw_t_29)
        have kt_0_0__37 := cell_below bw_t_29 kt_0_0__1
        have kt_0_1__38 := cell_below bw_t_29 kt_0_1__2
        have kt_0_2__39 := cell_below bw_t_29 kt_0_2__3
        have kt_0_3__40 := cell_below bw_t_29 kt_0_3__4
        have kx_9_0__41 := cell_below bw_t_29 kx_9_0
        have kx_9_1__42 := cell_below bw_t_29 kx_9_1
        have kx_9_2__43 := cell_below bw_t_29 kx_9_2
        have kx_9_3__44 := cell_below bw_t_29 kx_9_3
        replace Kt_18 := Lib.hid (Go.Proofs.YtpcdaoeijlifmaaDoor.GoC.cur_below Kt_18.out bw_t_29)
        replace Ot_0 := Lib.hid (own_below Ot_0.out bw_t_29)
        replace Ox_9 := Lib.hid (own_below Ox_9.out bw_t_29)
        clear bw_t_29
        replace H := bind2_hid H
        obtain ⟨t_30, t_30_tp, qt_30, H⟩ := H
        go_wp2_with fail
        clear kt_0_0__1 kt_0_1__2 kt_0_2__3 kt_0_3__4 kx_9_0 kx_9_1 kx_9_2 kx_9_3
        have hc_ := nt_29.out
        have hv_ : (Value.slice (some ⟨wt_18.heap.size, 0, none⟩) 2 2 : Value) = Value.slice (some ⟨wt_18.heap.size, 0, none⟩) t_29.length 2 := by rw [hc_]
        try rw [hv_]
        replace Ot_29 := Lib.hid (own_len hc_ Ot_29.out)
        clear hc_ hv_
        go_wp2_with fail
        go_at_call 46
        refine (Go.Proofs.YtpcdaoeijlifmaaDoor.GsL1CurAmong.C (t_18_tp) (t_29) (some ⟨wt_18.heap.size, 0, none⟩) 2 (g0) (Ac0) (cc0) (bc0) _   (Lib.hid (own_cells Ot_29.out)) (Lib.hid (own_max Ot_29.out)) Kt_18 (Lib.hid (fun _ => Dt_29_c0.out)) qt_30).mono ?_
        rintro e_t_30 wt_30 ⟨rfl, kt_30, gt_30⟩
        have Kt_30 := Lib.hid kt_30
        have Gt_30 : Hid (w_t_29.grownBy wt_30 (Value.slice (some ⟨g0, 0, none⟩) 1 1).ownBlock) := Lib.hid gt_30
        clear kt_30 gt_30
        have HBwt_30 := Lib.hid (Aid.grown_tr HBw_t_29.out Gt_30.out)
        replace kt_0_0__37 := cell_other kt_0_0__37 Gt_30.out (Apart.symm Dt_0_c0.out)
        replace kt_0_1__38 := cell_other kt_0_1__38 Gt_30.out (Apart.symm Dt_0_c0.out)
        replace kt_0_2__39 := cell_other kt_0_2__39 Gt_30.out (Apart.symm Dt_0_c0.out)
        replace kt_0_3__40 := cell_other kt_0_3__40 Gt_30.out (Apart.symm Dt_0_c0.out)
        replace kx_9_0__41 := cell_other kx_9_0__41 Gt_30.out (Apart.symm Dx_9_c0.out)
        replace kx_9_1__42 := cell_other kx_9_1__42 Gt_30.out (Apart.symm Dx_9_c0.out)
        replace kx_9_2__43 := cell_other kx_9_2__43 Gt_30.out (Apart.symm Dx_9_c0.out)
        replace kx_9_3__44 := cell_other kx_9_3__44 Gt_30.out (Apart.symm Dx_9_c0.out)
        replace Ot_0 := Lib.hid (own_other Ot_0.out Gt_30.out (Apart.symm Dt_0_c0.out))
        replace Ox_9 := Lib.hid (own_other Ox_9.out Gt_30.out (Apart.symm Dx_9_c0.out))
        replace Ot_29 := Lib.hid (own_other Ot_29.out Gt_30.out (Apart.symm Dt_29_c0.out))
        clear Kt_18 Gt_30
        obtain ⟨wb32_32, hwb32_32⟩ : ∃ x, (wt_30).setCell ⟨wt_7.heap.size, 1, none⟩ (.int .i64 t_30) = x := ⟨_, rfl⟩
        have z0b32_32 := Ox_9.out.frozenAt 1
        have Sb32_32 := Lib.hid (own_stores [(1, .int .i64 t_30)] Ox_9.out)
        have Pb32_32 : Hid (wb32_32.ownsRow w.heap.size 43 4 (.slice (some ⟨wt_7.heap.size, 0, none⟩) 1 1) 1 [.int .i64 id, .int .i64 t_30, .int .i64 t_5, .bool t_7]) := Lib.hid (by rw [← hwb32_32]; exact Sb32_32.out.1)
        have Gb32_32 : Hid (wt_30.grownBy wb32_32 (Value.slice (some ⟨wt_7.heap.size, 0, none⟩) 1 1).ownBlock) := Lib.hid (by rw [← hwb32_32]; exact Sb32_32.out.2)
        have HBwb32_32 := Lib.hid (Go.Proofs.YtpcdaoeijlifmaaDoor.GoC.grown_new HBwt_30.out Gb32_32.out (Go.Proofs.YtpcdaoeijlifmaaDoor.GoC.own_ge Ox_9.out))
        clear Sb32_32
        have kt_0_0__45 := cell_other kt_0_0__37 Gb32_32.out Dx_9_t_0.out
        have kt_0_1__46 := cell_other kt_0_1__38 Gb32_32.out Dx_9_t_0.out
        have kt_0_2__47 := cell_other kt_0_2__39 Gb32_32.out Dx_9_t_0.out
        have kt_0_3__48 := cell_other kt_0_3__40 Gb32_32.out Dx_9_t_0.out
        replace Ot_0 := Lib.hid (own_other Ot_0.out Gb32_32.out Dx_9_t_0.out)
        replace Ot_29 := Lib.hid (own_other Ot_29.out Gb32_32.out (Apart.symm Dt_29_x_9.out))
        replace Kt_30 := Lib.hid (Go.Proofs.YtpcdaoeijlifmaaDoor.GoC.cur_other Kt_30.out Gb32_32.out Dx_9_c0.out (fun a_ e_ => Nat.le_trans L0 (Go.Proofs.YtpcdaoeijlifmaaDoor.GoC.own_ge Ox_9.out a_ e_)))
        clear Ox_9 Gb32_32
        have kx_9_0__49 : wb32_32.cell? ⟨wt_7.heap.size, 0, none⟩ = some (.int .i64 id) := Pb32_32.out.cells rfl 0 _ rfl
        have kx_9_1__50 : wb32_32.cell? ⟨wt_7.heap.size, 1, none⟩ = some (.int .i64 t_30) := Pb32_32.out.cells rfl 1 _ rfl
        have kx_9_2__51 : wb32_32.cell? ⟨wt_7.heap.size, 2, none⟩ = some (.int .i64 t_5) := Pb32_32.out.cells rfl 2 _ rfl
        have kx_9_3__52 : wb32_32.cell? ⟨wt_7.heap.size, 3, none⟩ = some (.bool t_7) := Pb32_32.out.cells rfl 3 _ rfl
        obtain ⟨wb41_41, hwb41_41⟩ : ∃ x, ((((wb32_32).setCell ⟨w.heap.size, 0, none⟩ (.int .i64 id)).setCell ⟨w.heap.size, 1, none⟩ (.int .i64 t_30)).setCell ⟨w.heap.size, 2, none⟩ (.int .i64 t_5)).setCell ⟨w.heap.size, 3, none⟩ (.bool t_7) = x := ⟨_, rfl⟩
        have z0b41_41 := Ot_0.out.frozenAt 0
        have z1b41_41 := Ot_0.out.frozenAt 1
        have z2b41_41 := Ot_0.out.frozenAt 2
        have z3b41_41 := Ot_0.out.frozenAt 3
        have Sb41_41 := Lib.hid (own_stores [(0, .int .i64 id), (1, .int .i64 t_30), (2, .int .i64 t_5), (3, .bool t_7)] Ot_0.out)
        have Pb41_41 : Hid (wb41_41.ownsRow w.heap.size 43 4 (.slice (some ⟨w.heap.size, 0, none⟩) 1 1) 1 [.int .i64 id, .int .i64 t_30, .int .i64 t_5, .bool t_7]) := Lib.hid (by rw [← hwb41_41]; exact Sb41_41.out.1)
        have Gb41_41 : Hid (wb32_32.grownBy wb41_41 (Value.slice (some ⟨w.heap.size, 0, none⟩) 1 1).ownBlock) := Lib.hid (by rw [← hwb41_41]; exact Sb41_41.out.2)
        have HBwb41_41 := Lib.hid (Go.Proofs.YtpcdaoeijlifmaaDoor.GoC.grown_new HBwb32_32.out Gb41_41.out (Go.Proofs.YtpcdaoeijlifmaaDoor.GoC.own_ge Ot_0.out))
        clear Sb41_41
        have kx_9_0__53 := cell_other kx_9_0__49 Gb41_41.out (Apart.symm Dx_9_t_0.out)
        have kx_9_1__54 := cell_other kx_9_1__50 Gb41_41.out (Apart.symm Dx_9_t_0.out)
        have kx_9_2__55 := cell_other kx_9_2__51 Gb41_41.out (Apart.symm Dx_9_t_0.out)
        have kx_9_3__56 := cell_other kx_9_3__52 Gb41_41.out (Apart.symm Dx_9_t_0.out)
        replace Pb32_32 := Lib.hid (own_other Pb32_32.out Gb41_41.out (Apart.symm Dx_9_t_0.out))
        replace Ot_29 := Lib.hid (own_other Ot_29.out Gb41_41.out (Apart.symm Dt_29_t_0.out))
        replace Kt_30 := Lib.hid (Go.Proofs.YtpcdaoeijlifmaaDoor.GoC.cur_other Kt_30.out Gb41_41.out Dt_0_c0.out (fun a_ e_ => Nat.le_trans L0 (Go.Proofs.YtpcdaoeijlifmaaDoor.GoC.own_ge Ot_0.out a_ e_)))
        clear Ot_0 Gb41_41
        have kt_0_0__57 : wb41_41.cell? ⟨w.heap.size, 0, none⟩ = some (.int .i64 id) := Pb41_41.out.cells rfl 0 _ rfl
        have kt_0_1__58 : wb41_41.cell? ⟨w.heap.size, 1, none⟩ = some (.int .i64 t_30) := Pb41_41.out.cells rfl 1 _ rfl
        have kt_0_2__59 : wb41_41.cell? ⟨w.heap.size, 2, none⟩ = some (.int .i64 t_5) := Pb41_41.out.cells rfl 2 _ rfl
        have kt_0_3__60 : wb41_41.cell? ⟨w.heap.size, 3, none⟩ = some (.bool t_7) := Pb41_41.out.cells rfl 3 _ rfl
        cases ret_hid H
        go_wp2_with fail
        (try simp only [Exit.inBlock, Exit.then])
        refine bodyPost_ret (v := .agg #[.int .i64 id, .int .i64 t_30, .int .i64 t_5, .bool t_7]) ?hr_ ?hd_ ?_
        case hd_ => rfl
        case hr_ => simp [results, Tryd.results67, kt_0_0__57, kt_0_1__58, kt_0_2__59, kt_0_3__60, go_sem]
        exact ⟨rfl, Kt_30.out, HBwb41_41.out⟩
    | true =>
      replace H := ite_t H
      replace H := let_hid H
      obtain ⟨t_22, ht_22, H⟩ := H
      obtain ⟨w_t_22, hw_t_22⟩ : ∃ x, wt_18.alloc (.cells #[.int .i64 0, .int .i64 99, .int .i64 100] 3) = x := ⟨_, rfl⟩
      have bw_t_22 : Below wt_18.heap.size wt_18 w_t_22 := by rw [← hw_t_22]; exact (Below.refl _ _).alloc (Nat.le_refl _) _
      have hs_t_22 := HBwt_18.out.size
      have nt_22 : t_22.length = 3 := by rw [← ht_22]; rfl
      have Ot_22 : Hid (w_t_22.ownsRow w.heap.size 3 1 (.slice (some ⟨wt_18.heap.size, 0, none⟩) 3 3) 3 (Go.Proofs.YtpcdaoeijlifmaaDoor.HelpInt.iv t_22)) := by
        rw [← hw_t_22, ← ht_22]
        have e_ : ([.int .i64 0, .int .i64 99, .int .i64 100] : List Value) = (Go.Proofs.YtpcdaoeijlifmaaDoor.HelpInt.iv ([0, 99, 100] : List Int)) := rfl
        exact Lib.hid (own_laid (n := 3) hs_t_22 e_ rfl (by unfold maxLen; omega))
      clear hs_t_22
      have hht_22 := Lib.hid ht_22
      clear ht_22
      replace nt_22 := Lib.hid nt_22
      have Dt_22_c0 := Lib.hid (Go.Proofs.YtpcdaoeijlifmaaDoor.GoC.apart_cur Kt_18.out)
      have Dt_22_t_0 := Lib.hid (apart_box kt_0_0__1)
      have Dt_22_x_9 := Lib.hid (apart_box kx_9_0)
      have HBw_t_22 := Lib.hid (grown_below HBwt_18.out bw_t_22)
      have kt_0_0__61 := cell_below bw_t_22 kt_0_0__1
      have kt_0_1__62 := cell_below bw_t_22 kt_0_1__2
      have kt_0_2__63 := cell_below bw_t_22 kt_0_2__3
      have kt_0_3__64 := cell_below bw_t_22 kt_0_3__4
      have kx_9_0__65 := cell_below bw_t_22 kx_9_0
      have kx_9_1__66 := cell_below bw_t_22 kx_9_1
      have kx_9_2__67 := cell_below bw_t_22 kx_9_2
      have kx_9_3__68 := cell_below bw_t_22 kx_9_3
      replace Kt_18 := Lib.hid (Go.Proofs.YtpcdaoeijlifmaaDoor.GoC.cur_below Kt_18.out bw_t_22)
      replace Ot_0 := Lib.hid (own_below Ot_0.out bw_t_22)
      replace Ox_9 := Lib.hid (own_below Ox_9.out bw_t_22)
      clear bw_t_22
      replace H := bind2_hid H
      obtain ⟨t_23, t_23_tp, qt_23, H⟩ := H
      go_wp2_with fail
      clear kt_0_0__1 kt_0_1__2 kt_0_2__3 kt_0_3__4 kx_9_0 kx_9_1 kx_9_2 kx_9_3
      have hc_ := nt_22.out
      have hv_ : (Value.slice (some ⟨wt_18.heap.size, 0, none⟩) 3 3 : Value) = Value.slice (some ⟨wt_18.heap.size, 0, none⟩) t_22.length 3 := by rw [hc_]
      try rw [hv_]
      replace Ot_22 := Lib.hid (own_len hc_ Ot_22.out)
      clear hc_ hv_
      go_wp2_with fail
      go_at_call 46
      refine (Go.Proofs.YtpcdaoeijlifmaaDoor.GsL1CurAmong.C (t_18_tp) (t_22) (some ⟨wt_18.heap.size, 0, none⟩) 3 (g0) (Ac0) (cc0) (bc0) _   (Lib.hid (own_cells Ot_22.out)) (Lib.hid (own_max Ot_22.out)) Kt_18 (Lib.hid (fun _ => Dt_22_c0.out)) qt_23).mono ?_
      rintro e_t_23 wt_23 ⟨rfl, kt_23, gt_23⟩
      have Kt_23 := Lib.hid kt_23
      have Gt_23 : Hid (w_t_22.grownBy wt_23 (Value.slice (some ⟨g0, 0, none⟩) 1 1).ownBlock) := Lib.hid gt_23
      clear kt_23 gt_23
      have HBwt_23 := Lib.hid (Aid.grown_tr HBw_t_22.out Gt_23.out)
      replace kt_0_0__61 := cell_other kt_0_0__61 Gt_23.out (Apart.symm Dt_0_c0.out)
      replace kt_0_1__62 := cell_other kt_0_1__62 Gt_23.out (Apart.symm Dt_0_c0.out)
      replace kt_0_2__63 := cell_other kt_0_2__63 Gt_23.out (Apart.symm Dt_0_c0.out)
      replace kt_0_3__64 := cell_other kt_0_3__64 Gt_23.out (Apart.symm Dt_0_c0.out)
      replace kx_9_0__65 := cell_other kx_9_0__65 Gt_23.out (Apart.symm Dx_9_c0.out)
      replace kx_9_1__66 := cell_other kx_9_1__66 Gt_23.out (Apart.symm Dx_9_c0.out)
      replace kx_9_2__67 := cell_other kx_9_2__67 Gt_23.out (Apart.symm Dx_9_c0.out)
      replace kx_9_3__68 := cell_other kx_9_3__68 Gt_23.out (Apart.symm Dx_9_c0.out)
      replace Ot_0 := Lib.hid (own_other Ot_0.out Gt_23.out (Apart.symm Dt_0_c0.out))
      replace Ox_9 := Lib.hid (own_other Ox_9.out Gt_23.out (Apart.symm Dx_9_c0.out))
      replace Ot_22 := Lib.hid (own_other Ot_22.out Gt_23.out (Apart.symm Dt_22_c0.out))
      clear Kt_18 Gt_23
      obtain ⟨wb25_25, hwb25_25⟩ : ∃ x, (wt_23).setCell ⟨wt_7.heap.size, 0, none⟩ (.int .i64 t_23) = x := ⟨_, rfl⟩
      have z0b25_25 := Ox_9.out.frozenAt 0
      have Sb25_25 := Lib.hid (own_stores [(0, .int .i64 t_23)] Ox_9.out)
      have Pb25_25 : Hid (wb25_25.ownsRow w.heap.size 43 4 (.slice (some ⟨wt_7.heap.size, 0, none⟩) 1 1) 1 [.int .i64 t_23, .int .i64 t_3, .int .i64 t_5, .bool t_7]) := Lib.hid (by rw [← hwb25_25]; exact Sb25_25.out.1)
      have Gb25_25 : Hid (wt_23.grownBy wb25_25 (Value.slice (some ⟨wt_7.heap.size, 0, none⟩) 1 1).ownBlock) := Lib.hid (by rw [← hwb25_25]; exact Sb25_25.out.2)
      have HBwb25_25 := Lib.hid (Go.Proofs.YtpcdaoeijlifmaaDoor.GoC.grown_new HBwt_23.out Gb25_25.out (Go.Proofs.YtpcdaoeijlifmaaDoor.GoC.own_ge Ox_9.out))
      clear Sb25_25
      have kt_0_0__69 := cell_other kt_0_0__61 Gb25_25.out Dx_9_t_0.out
      have kt_0_1__70 := cell_other kt_0_1__62 Gb25_25.out Dx_9_t_0.out
      have kt_0_2__71 := cell_other kt_0_2__63 Gb25_25.out Dx_9_t_0.out
      have kt_0_3__72 := cell_other kt_0_3__64 Gb25_25.out Dx_9_t_0.out
      replace Ot_0 := Lib.hid (own_other Ot_0.out Gb25_25.out Dx_9_t_0.out)
      replace Ot_22 := Lib.hid (own_other Ot_22.out Gb25_25.out (Apart.symm Dt_22_x_9.out))
      replace Kt_23 := Lib.hid (Go.Proofs.YtpcdaoeijlifmaaDoor.GoC.cur_other Kt_23.out Gb25_25.out Dx_9_c0.out (fun a_ e_ => Nat.le_trans L0 (Go.Proofs.YtpcdaoeijlifmaaDoor.GoC.own_ge Ox_9.out a_ e_)))
      clear Ox_9 Gb25_25
      have kx_9_0__73 : wb25_25.cell? ⟨wt_7.heap.size, 0, none⟩ = some (.int .i64 t_23) := Pb25_25.out.cells rfl 0 _ rfl
      have kx_9_1__74 : wb25_25.cell? ⟨wt_7.heap.size, 1, none⟩ = some (.int .i64 t_3) := Pb25_25.out.cells rfl 1 _ rfl
      have kx_9_2__75 : wb25_25.cell? ⟨wt_7.heap.size, 2, none⟩ = some (.int .i64 t_5) := Pb25_25.out.cells rfl 2 _ rfl
      have kx_9_3__76 : wb25_25.cell? ⟨wt_7.heap.size, 3, none⟩ = some (.bool t_7) := Pb25_25.out.cells rfl 3 _ rfl
      obtain ⟨wb41_41, hwb41_41⟩ : ∃ x, ((((wb25_25).setCell ⟨w.heap.size, 0, none⟩ (.int .i64 t_23)).setCell ⟨w.heap.size, 1, none⟩ (.int .i64 t_3)).setCell ⟨w.heap.size, 2, none⟩ (.int .i64 t_5)).setCell ⟨w.heap.size, 3, none⟩ (.bool t_7) = x := ⟨_, rfl⟩
      have z0b41_41 := Ot_0.out.frozenAt 0
      have z1b41_41 := Ot_0.out.frozenAt 1
      have z2b41_41 := Ot_0.out.frozenAt 2
      have z3b41_41 := Ot_0.out.frozenAt 3
      have Sb41_41 := Lib.hid (own_stores [(0, .int .i64 t_23), (1, .int .i64 t_3), (2, .int .i64 t_5), (3, .bool t_7)] Ot_0.out)
      have Pb41_41 : Hid (wb41_41.ownsRow w.heap.size 43 4 (.slice (some ⟨w.heap.size, 0, none⟩) 1 1) 1 [.int .i64 t_23, .int .i64 t_3, .int .i64 t_5, .bool t_7]) := Lib.hid (by rw [← hwb41_41]; exact Sb41_41.out.1)
      have Gb41_41 : Hid (wb25_25.grownBy wb41_41 (Value.slice (some ⟨w.heap.size, 0, none⟩) 1 1).ownBlock) := Lib.hid (by rw [← hwb41_41]; exact Sb41_41.out.2)
      have HBwb41_41 := Lib.hid (Go.Proofs.YtpcdaoeijlifmaaDoor.GoC.grown_new HBwb25_25.out Gb41_41.out (Go.Proofs.YtpcdaoeijlifmaaDoor.GoC.own_ge Ot_0.out))
      clear Sb41_41
      have kx_9_0__77 := cell_other kx_9_0__73 Gb41_41.out (Apart.symm Dx_9_t_0.out)
      have kx_9_1__78 := cell_other kx_9_1__74 Gb41_41.out (Apart.symm Dx_9_t_0.out)
      have kx_9_2__79 := cell_other kx_9_2__75 Gb41_41.out (Apart.symm Dx_9_t_0.out)
      have kx_9_3__80 := cell_other kx_9_3__76 Gb41_41.out (Apart.symm Dx_9_t_0.out)
      replace Pb25_25 := Lib.hid (own_other Pb25_25.out Gb41_41.out (Apart.symm Dx_9_t_0.out))
      replace Ot_22 := Lib.hid (own_other Ot_22.out Gb41_41.out (Apart.symm Dt_22_t_0.out))
      replace Kt_23 := Lib.hid (Go.Proofs.YtpcdaoeijlifmaaDoor.GoC.cur_other Kt_23.out Gb41_41.out Dt_0_c0.out (fun a_ e_ => Nat.le_trans L0 (Go.Proofs.YtpcdaoeijlifmaaDoor.GoC.own_ge Ot_0.out a_ e_)))
      clear Ot_0 Gb41_41
      have kt_0_0__81 : wb41_41.cell? ⟨w.heap.size, 0, none⟩ = some (.int .i64 t_23) := Pb41_41.out.cells rfl 0 _ rfl
      have kt_0_1__82 : wb41_41.cell? ⟨w.heap.size, 1, none⟩ = some (.int .i64 t_3) := Pb41_41.out.cells rfl 1 _ rfl
      have kt_0_2__83 : wb41_41.cell? ⟨w.heap.size, 2, none⟩ = some (.int .i64 t_5) := Pb41_41.out.cells rfl 2 _ rfl
      have kt_0_3__84 : wb41_41.cell? ⟨w.heap.size, 3, none⟩ = some (.bool t_7) := Pb41_41.out.cells rfl 3 _ rfl
      cases ret_hid H
      go_wp2_with fail
      (try simp only [Exit.inBlock, Exit.then])
      refine bodyPost_ret (v := .agg #[.int .i64 t_23, .int .i64 t_3, .int .i64 t_5, .bool t_7]) ?hr_ ?hd_ ?_
      case hd_ => rfl
      case hr_ => simp [results, Tryd.results67, kt_0_0__81, kt_0_1__82, kt_0_2__83, kt_0_3__84, go_sem]
      exact ⟨rfl, Kt_23.out, HBwb41_41.out⟩
  | true =>
    replace H := ite_t H
    obtain ⟨wb16_16, hwb16_16⟩ : ∃ x, (wt_12).setCell ⟨wt_7.heap.size, 2, none⟩ (.int .i64 t_3) = x := ⟨_, rfl⟩
    have z0b16_16 := Ox_9.out.frozenAt 2
    have Sb16_16 := Lib.hid (own_stores [(2, .int .i64 t_3)] Ox_9.out)
    have Pb16_16 : Hid (wb16_16.ownsRow w.heap.size 43 4 (.slice (some ⟨wt_7.heap.size, 0, none⟩) 1 1) 1 [.int .i64 id, .int .i64 t_3, .int .i64 t_3, .bool t_7]) := Lib.hid (by rw [← hwb16_16]; exact Sb16_16.out.1)
    have Gb16_16 : Hid (wt_12.grownBy wb16_16 (Value.slice (some ⟨wt_7.heap.size, 0, none⟩) 1 1).ownBlock) := Lib.hid (by rw [← hwb16_16]; exact Sb16_16.out.2)
    have HBwb16_16 := Lib.hid (Go.Proofs.YtpcdaoeijlifmaaDoor.GoC.grown_new HBwt_12.out Gb16_16.out (Go.Proofs.YtpcdaoeijlifmaaDoor.GoC.own_ge Ox_9.out))
    clear Sb16_16
    have kt_0_0__85 := cell_other kt_0_0__1 Gb16_16.out Dx_9_t_0.out
    have kt_0_1__86 := cell_other kt_0_1__2 Gb16_16.out Dx_9_t_0.out
    have kt_0_2__87 := cell_other kt_0_2__3 Gb16_16.out Dx_9_t_0.out
    have kt_0_3__88 := cell_other kt_0_3__4 Gb16_16.out Dx_9_t_0.out
    replace Ot_0 := Lib.hid (own_other Ot_0.out Gb16_16.out Dx_9_t_0.out)
    replace Kt_12 := Lib.hid (Go.Proofs.YtpcdaoeijlifmaaDoor.GoC.cur_other Kt_12.out Gb16_16.out Dx_9_c0.out (fun a_ e_ => Nat.le_trans L0 (Go.Proofs.YtpcdaoeijlifmaaDoor.GoC.own_ge Ox_9.out a_ e_)))
    clear Ox_9 Gb16_16
    have kx_9_0__89 : wb16_16.cell? ⟨wt_7.heap.size, 0, none⟩ = some (.int .i64 id) := Pb16_16.out.cells rfl 0 _ rfl
    have kx_9_1__90 : wb16_16.cell? ⟨wt_7.heap.size, 1, none⟩ = some (.int .i64 t_3) := Pb16_16.out.cells rfl 1 _ rfl
    have kx_9_2__91 : wb16_16.cell? ⟨wt_7.heap.size, 2, none⟩ = some (.int .i64 t_3) := Pb16_16.out.cells rfl 2 _ rfl
    have kx_9_3__92 : wb16_16.cell? ⟨wt_7.heap.size, 3, none⟩ = some (.bool t_7) := Pb16_16.out.cells rfl 3 _ rfl
    unfold j0 at H
    replace H := unp4_hid H
    replace H := bind2_hid H
    obtain ⟨t_18, t_18_tp, qt_18, H⟩ := H
    go_wp2_with fail
    clear z0b16_16 kt_0_0__1 kt_0_1__2 kt_0_2__3 kt_0_3__4 kx_9_0 kx_9_1 kx_9_2 kx_9_3
    go_at_call 47
    refine (Go.Proofs.YtpcdaoeijlifmaaDoor.GsL1CurPick.C (t_12_tp) (80) (g0) (Ac0) (cc0) (bc0) _   Kt_12 qt_18).mono ?_
    rintro e_t_18 wt_18 ⟨rfl, kt_18, gt_18⟩
    have Kt_18 := Lib.hid kt_18
    have Gt_18 : Hid (wb16_16.grownBy wt_18 (Value.slice (some ⟨g0, 0, none⟩) 1 1).ownBlock) := Lib.hid gt_18
    clear kt_18 gt_18
    have HBwt_18 := Lib.hid (Aid.grown_tr HBwb16_16.out Gt_18.out)
    replace kt_0_0__85 := cell_other kt_0_0__85 Gt_18.out (Apart.symm Dt_0_c0.out)
    replace kt_0_1__86 := cell_other kt_0_1__86 Gt_18.out (Apart.symm Dt_0_c0.out)
    replace kt_0_2__87 := cell_other kt_0_2__87 Gt_18.out (Apart.symm Dt_0_c0.out)
    replace kt_0_3__88 := cell_other kt_0_3__88 Gt_18.out (Apart.symm Dt_0_c0.out)
    replace kx_9_0__89 := cell_other kx_9_0__89 Gt_18.out (Apart.symm Dx_9_c0.out)
    replace kx_9_1__90 := cell_other kx_9_1__90 Gt_18.out (Apart.symm Dx_9_c0.out)
    replace kx_9_2__91 := cell_other kx_9_2__91 Gt_18.out (Apart.symm Dx_9_c0.out)
    replace kx_9_3__92 := cell_other kx_9_3__92 Gt_18.out (Apart.symm Dx_9_c0.out)
    replace Ot_0 := Lib.hid (own_other Ot_0.out Gt_18.out (Apart.symm Dt_0_c0.out))
    replace Pb16_16 := Lib.hid (own_other Pb16_16.out Gt_18.out (Apart.symm Dx_9_c0.out))
    clear Kt_12 Gt_18
    replace H := let_hid H
    obtain ⟨t_19, ht_19, H⟩ := H
    cases t_19 with
    | false =>
      replace H := ite_f H
      replace H := let_hid H
      obtain ⟨t_26, ht_26, H⟩ := H
      cases t_26 with
      | false =>
        replace H := ite_f H
        replace H := let_hid H
        obtain ⟨t_33, ht_33, H⟩ := H
        cases t_33 with
        | false =>
          replace H := ite_f H
          obtain ⟨wb41_41, hwb41_41⟩ : ∃ x, ((((wt_18).setCell ⟨w.heap.size, 0, none⟩ (.int .i64 id)).setCell ⟨w.heap.size, 1, none⟩ (.int .i64 t_3)).setCell ⟨w.heap.size, 2, none⟩ (.int .i64 t_3)).setCell ⟨w.heap.size, 3, none⟩ (.bool t_7) = x := ⟨_, rfl⟩
          have z0b41_41 := Ot_0.out.frozenAt 0
          have z1b41_41 := Ot_0.out.frozenAt 1
          have z2b41_41 := Ot_0.out.frozenAt 2
          have z3b41_41 := Ot_0.out.frozenAt 3
          have Sb41_41 := Lib.hid (own_stores [(0, .int .i64 id), (1, .int .i64 t_3), (2, .int .i64 t_3), (3, .bool t_7)] Ot_0.out)
          have Pb41_41 : Hid (wb41_41.ownsRow w.heap.size 43 4 (.slice (some ⟨w.heap.size, 0, none⟩) 1 1) 1 [.int .i64 id, .int .i64 t_3, .int .i64 t_3, .bool t_7]) := Lib.hid (by rw [← hwb41_41]; exact Sb41_41.out.1)
          have Gb41_41 : Hid (wt_18.grownBy wb41_41 (Value.slice (some ⟨w.heap.size, 0, none⟩) 1 1).ownBlock) := Lib.hid (by rw [← hwb41_41]; exact Sb41_41.out.2)
          have HBwb41_41 := Lib.hid (Go.Proofs.YtpcdaoeijlifmaaDoor.GoC.grown_new HBwt_18.out Gb41_41.out (Go.Proofs.YtpcdaoeijlifmaaDoor.GoC.own_ge Ot_0.out))
          clear Sb41_41
          have kx_9_0__93 := cell_other kx_9_0__89 Gb41_41.out (Apart.symm Dx_9_t_0.out)
          have kx_9_1__94 := cell_other kx_9_1__90 Gb41_41.out (Apart.symm Dx_9_t_0.out)
          have kx_9_2__95 := cell_other kx_9_2__91 Gb41_41.out (Apart.symm Dx_9_t_0.out)
          have kx_9_3__96 := cell_other kx_9_3__92 Gb41_41.out (Apart.symm Dx_9_t_0.out)
          replace Pb16_16 := Lib.hid (own_other Pb16_16.out Gb41_41.out (Apart.symm Dx_9_t_0.out))
          replace Kt_18 := Lib.hid (Go.Proofs.YtpcdaoeijlifmaaDoor.GoC.cur_other Kt_18.out Gb41_41.out Dt_0_c0.out (fun a_ e_ => Nat.le_trans L0 (Go.Proofs.YtpcdaoeijlifmaaDoor.GoC.own_ge Ot_0.out a_ e_)))
          clear Ot_0 Gb41_41
          have kt_0_0__97 : wb41_41.cell? ⟨w.heap.size, 0, none⟩ = some (.int .i64 id) := Pb41_41.out.cells rfl 0 _ rfl
          have kt_0_1__98 : wb41_41.cell? ⟨w.heap.size, 1, none⟩ = some (.int .i64 t_3) := Pb41_41.out.cells rfl 1 _ rfl
          have kt_0_2__99 : wb41_41.cell? ⟨w.heap.size, 2, none⟩ = some (.int .i64 t_3) := Pb41_41.out.cells rfl 2 _ rfl
          have kt_0_3__100 : wb41_41.cell? ⟨w.heap.size, 3, none⟩ = some (.bool t_7) := Pb41_41.out.cells rfl 3 _ rfl
          cases ret_hid H
          go_wp2_with fail
          (try simp only [Exit.inBlock, Exit.then])
          refine bodyPost_ret (v := .agg #[.int .i64 id, .int .i64 t_3, .int .i64 t_3, .bool t_7]) ?hr_ ?hd_ ?_
          case hd_ => rfl
          case hr_ => simp [results, Tryd.results67, kt_0_0__97, kt_0_1__98, kt_0_2__99, kt_0_3__100, go_sem]
          exact ⟨rfl, Kt_18.out, HBwb41_41.out⟩
        | true =>
          replace H := ite_t H
          replace H := let_hid H
          obtain ⟨t_36, ht_36, H⟩ := H
          obtain ⟨w_t_36, hw_t_36⟩ : ∃ x, wt_18.alloc (.cells #[.int .i64 499, .int .i64 2001] 3) = x := ⟨_, rfl⟩
          have bw_t_36 : Below wt_18.heap.size wt_18 w_t_36 := by rw [← hw_t_36]; exact (Below.refl _ _).alloc (Nat.le_refl _) _
          have hs_t_36 := HBwt_18.out.size
          have nt_36 : t_36.length = 2 := by rw [← ht_36]; rfl
          have Ot_36 : Hid (w_t_36.ownsRow w.heap.size 3 1 (.slice (some ⟨wt_18.heap.size, 0, none⟩) 2 2) 2 (Go.Proofs.YtpcdaoeijlifmaaDoor.HelpInt.iv t_36)) := by
            rw [← hw_t_36, ← ht_36]
            have e_ : ([.int .i64 499, .int .i64 2001] : List Value) = (Go.Proofs.YtpcdaoeijlifmaaDoor.HelpInt.iv ([499, 2001] : List Int)) := rfl
            exact Lib.hid (own_laid (n := 2) hs_t_36 e_ rfl (by unfold maxLen; omega))
          clear hs_t_36
          have hht_36 := Lib.hid ht_36
          clear ht_36
          replace nt_36 := Lib.hid nt_36
          have Dt_36_c0 := Lib.hid (Go.Proofs.YtpcdaoeijlifmaaDoor.GoC.apart_cur Kt_18.out)
          have Dt_36_t_0 := Lib.hid (apart_box kt_0_0__85)
          have Dt_36_x_9 := Lib.hid (apart_box kx_9_0__89)
          have HBw_t_36 := Lib.hid (grown_below HBwt_18.out bw_t_36)
          have kt_0_0__101 := cell_below bw_t_36 kt_0_0__85
          have kt_0_1__102 := cell_below bw_t_36 kt_0_1__86
          have kt_0_2__103 := cell_below bw_t_36 kt_0_2__87
          have kt_0_3__104 := cell_below bw_t_36 kt_0_3__88
          have kx_9_0__105 := cell_below bw_t_36 kx_9_0__89
          have kx_9_1__106 := cell_below bw_t_36 kx_9_1__90
          have kx_9_2__107 := cell_below bw_t_36 kx_9_2__91
          have kx_9_3__108 := cell_below bw_t_36 kx_9_3__92
          replace Kt_18 := Lib.hid (Go.Proofs.YtpcdaoeijlifmaaDoor.GoC.cur_below Kt_18.out bw_t_36)
          replace Ot_0 := Lib.hid (own_below Ot_0.out bw_t_36)
          replace Pb16_16 := Lib.hid (own_below Pb16_16.out bw_t_36)
          clear bw_t_36
          replace H := bind2_hid H
          obtain ⟨t_37, t_37_tp, qt_37, H⟩ := H
          go_wp2_with fail
          clear kt_0_0__85 kt_0_1__86 kt_0_2__87 kt_0_3__88 kx_9_0__89 kx_9_1__90 kx_9_2__91 kx_9_3__92
          have hc_ := nt_36.out
          have hv_ : (Value.slice (some ⟨wt_18.heap.size, 0, none⟩) 2 2 : Value) = Value.slice (some ⟨wt_18.heap.size, 0, none⟩) t_36.length 2 := by rw [hc_]
          try rw [hv_]
          replace Ot_36 := Lib.hid (own_len hc_ Ot_36.out)
          clear hc_ hv_
          go_wp2_with fail
          go_at_call 46
          refine (Go.Proofs.YtpcdaoeijlifmaaDoor.GsL1CurAmong.C (t_18_tp) (t_36) (some ⟨wt_18.heap.size, 0, none⟩) 2 (g0) (Ac0) (cc0) (bc0) _   (Lib.hid (own_cells Ot_36.out)) (Lib.hid (own_max Ot_36.out)) Kt_18 (Lib.hid (fun _ => Dt_36_c0.out)) qt_37).mono ?_
          rintro e_t_37 wt_37 ⟨rfl, kt_37, gt_37⟩
          have Kt_37 := Lib.hid kt_37
          have Gt_37 : Hid (w_t_36.grownBy wt_37 (Value.slice (some ⟨g0, 0, none⟩) 1 1).ownBlock) := Lib.hid gt_37
          clear kt_37 gt_37
          have HBwt_37 := Lib.hid (Aid.grown_tr HBw_t_36.out Gt_37.out)
          replace kt_0_0__101 := cell_other kt_0_0__101 Gt_37.out (Apart.symm Dt_0_c0.out)
          replace kt_0_1__102 := cell_other kt_0_1__102 Gt_37.out (Apart.symm Dt_0_c0.out)
          replace kt_0_2__103 := cell_other kt_0_2__103 Gt_37.out (Apart.symm Dt_0_c0.out)
          replace kt_0_3__104 := cell_other kt_0_3__104 Gt_37.out (Apart.symm Dt_0_c0.out)
          replace kx_9_0__105 := cell_other kx_9_0__105 Gt_37.out (Apart.symm Dx_9_c0.out)
          replace kx_9_1__106 := cell_other kx_9_1__106 Gt_37.out (Apart.symm Dx_9_c0.out)
          replace kx_9_2__107 := cell_other kx_9_2__107 Gt_37.out (Apart.symm Dx_9_c0.out)
          replace kx_9_3__108 := cell_other kx_9_3__108 Gt_37.out (Apart.symm Dx_9_c0.out)
          replace Ot_0 := Lib.hid (own_other Ot_0.out Gt_37.out (Apart.symm Dt_0_c0.out))
          replace Pb16_16 := Lib.hid (own_other Pb16_16.out Gt_37.out (Apart.symm Dx_9_c0.out))
          replace Ot_36 := Lib.hid (own_other Ot_36.out Gt_37.out (Apart.symm Dt_36_c0.out))
          clear Kt_18 Gt_37
          obtain ⟨wb39_39, hwb39_39⟩ : ∃ x, (wt_37).setCell ⟨wt_7.heap.size, 2, none⟩ (.int .i64 t_37) = x := ⟨_, rfl⟩
          have z0b39_39 := Pb16_16.out.frozenAt 2
          have Sb39_39 := Lib.hid (own_stores [(2, .int .i64 t_37)] Pb16_16.out)
          have Pb39_39 : Hid (wb39_39.ownsRow w.heap.size 43 4 (.slice (some ⟨wt_7.heap.size, 0, none⟩) 1 1) 1 [.int .i64 id, .int .i64 t_3, .int .i64 t_37, .bool t_7]) := Lib.hid (by rw [← hwb39_39]; exact Sb39_39.out.1)
          have Gb39_39 : Hid (wt_37.grownBy wb39_39 (Value.slice (some ⟨wt_7.heap.size, 0, none⟩) 1 1).ownBlock) := Lib.hid (by rw [← hwb39_39]; exact Sb39_39.out.2)
          have HBwb39_39 := Lib.hid (Go.Proofs.YtpcdaoeijlifmaaDoor.GoC.grown_new HBwt_37.out Gb39_39.out (Go.Proofs.YtpcdaoeijlifmaaDoor.GoC.own_ge Pb16_16.out))
          clear Sb39_39
          have kt_0_0__109 := cell_other kt_0_0__101 Gb39_39.out Dx_9_t_0.out
          have kt_0_1__110 := cell_other kt_0_1__102 Gb39_39.out Dx_9_t_0.out
          have kt_0_2__111 := cell_other kt_0_2__103 Gb39_39.out Dx_9_t_0.out
          have kt_0_3__112 := cell_other kt_0_3__104 Gb39_39.out Dx_9_t_0.out
          replace Ot_0 := Lib.hid (own_other Ot_0.out Gb39_39.out Dx_9_t_0.out)
          replace Ot_36 := Lib.hid (own_other Ot_36.out Gb39_39.out (Apart.symm Dt_36_x_9.out))
          replace Kt_37 := Lib.hid (Go.Proofs.YtpcdaoeijlifmaaDoor.GoC.cur_other Kt_37.out Gb39_39.out Dx_9_c0.out (fun a_ e_ => Nat.le_trans L0 (Go.Proofs.YtpcdaoeijlifmaaDoor.GoC.own_ge Pb16_16.out a_ e_)))
          clear Pb16_16 Gb39_39
          have kx_9_0__113 : wb39_39.cell? ⟨wt_7.heap.size, 0, none⟩ = some (.int .i64 id) := Pb39_39.out.cells rfl 0 _ rfl
          have kx_9_1__114 : wb39_39.cell? ⟨wt_7.heap.size, 1, none⟩ = some (.int .i64 t_3) := Pb39_39.out.cells rfl 1 _ rfl
          have kx_9_2__115 : wb39_39.cell? ⟨wt_7.heap.size, 2, none⟩ = some (.int .i64 t_37) := Pb39_39.out.cells rfl 2 _ rfl
          have kx_9_3__116 : wb39_39.cell? ⟨wt_7.heap.size, 3, none⟩ = some (.bool t_7) := Pb39_39.out.cells rfl 3 _ rfl
          obtain ⟨wb41_41, hwb41_41⟩ : ∃ x, ((((wb39_39).setCell ⟨w.heap.size, 0, none⟩ (.int .i64 id)).setCell ⟨w.heap.size, 1, none⟩ (.int .i64 t_3)).setCell ⟨w.heap.size, 2, none⟩ (.int .i64 t_37)).setCell ⟨w.heap.size, 3, none⟩ (.bool t_7) = x := ⟨_, rfl⟩
          have z0b41_41 := Ot_0.out.frozenAt 0
          have z1b41_41 := Ot_0.out.frozenAt 1
          have z2b41_41 := Ot_0.out.frozenAt 2
          have z3b41_41 := Ot_0.out.frozenAt 3
          have Sb41_41 := Lib.hid (own_stores [(0, .int .i64 id), (1, .int .i64 t_3), (2, .int .i64 t_37), (3, .bool t_7)] Ot_0.out)
          have Pb41_41 : Hid (wb41_41.ownsRow w.heap.size 43 4 (.slice (some ⟨w.heap.size, 0, none⟩) 1 1) 1 [.int .i64 id, .int .i64 t_3, .int .i64 t_37, .bool t_7]) := Lib.hid (by rw [← hwb41_41]; exact Sb41_41.out.1)
          have Gb41_41 : Hid (wb39_39.grownBy wb41_41 (Value.slice (some ⟨w.heap.size, 0, none⟩) 1 1).ownBlock) := Lib.hid (by rw [← hwb41_41]; exact Sb41_41.out.2)
          have HBwb41_41 := Lib.hid (Go.Proofs.YtpcdaoeijlifmaaDoor.GoC.grown_new HBwb39_39.out Gb41_41.out (Go.Proofs.YtpcdaoeijlifmaaDoor.GoC.own_ge Ot_0.out))
          clear Sb41_41
          have kx_9_0__117 := cell_other kx_9_0__113 Gb41_41.out (Apart.symm Dx_9_t_0.out)
          have kx_9_1__118 := cell_other kx_9_1__114 Gb41_41.out (Apart.symm Dx_9_t_0.out)
          have kx_9_2__119 := cell_other kx_9_2__115 Gb41_41.out (Apart.symm Dx_9_t_0.out)
          have kx_9_3__120 := cell_other kx_9_3__116 Gb41_41.out (Apart.symm Dx_9_t_0.out)
          replace Pb39_39 := Lib.hid (own_other Pb39_39.out Gb41_41.out (Apart.symm Dx_9_t_0.out))
          replace Ot_36 := Lib.hid (own_other Ot_36.out Gb41_41.out (Apart.symm Dt_36_t_0.out))
          replace Kt_37 := Lib.hid (Go.Proofs.YtpcdaoeijlifmaaDoor.GoC.cur_other Kt_37.out Gb41_41.out Dt_0_c0.out (fun a_ e_ => Nat.le_trans L0 (Go.Proofs.YtpcdaoeijlifmaaDoor.GoC.own_ge Ot_0.out a_ e_)))
          clear Ot_0 Gb41_41
          have kt_0_0__121 : wb41_41.cell? ⟨w.heap.size, 0, none⟩ = some (.int .i64 id) := Pb41_41.out.cells rfl 0 _ rfl
          have kt_0_1__122 : wb41_41.cell? ⟨w.heap.size, 1, none⟩ = some (.int .i64 t_3) := Pb41_41.out.cells rfl 1 _ rfl
          have kt_0_2__123 : wb41_41.cell? ⟨w.heap.size, 2, none⟩ = some (.int .i64 t_37) := Pb41_41.out.cells rfl 2 _ rfl
          have kt_0_3__124 : wb41_41.cell? ⟨w.heap.size, 3, none⟩ = some (.bool t_7) := Pb41_41.out.cells rfl 3 _ rfl
          cases ret_hid H
          go_wp2_with fail
          (try simp only [Exit.inBlock, Exit.then])
          refine bodyPost_ret (v := .agg #[.int .i64 id, .int .i64 t_3, .int .i64 t_37, .bool t_7]) ?hr_ ?hd_ ?_
          case hd_ => rfl
          case hr_ => simp [results, Tryd.results67, kt_0_0__121, kt_0_1__122, kt_0_2__123, kt_0_3__124, go_sem]
          exact ⟨rfl, Kt_37.out, HBwb41_41.out⟩
      | true =>
        replace H := ite_t H
        replace H := let_hid H
        obtain ⟨t_29, ht_29, H⟩ := H
        obtain ⟨w_t_29, hw_t_29⟩ : ∃ x, wt_18.alloc (.cells #[.int .i64 499, .int .i64 2001] 3) = x := ⟨_, rfl⟩
        have bw_t_29 : Below wt_18.heap.size wt_18 w_t_29 := by rw [← hw_t_29]; exact (Below.refl _ _).alloc (Nat.le_refl _) _
        have hs_t_29 := HBwt_18.out.size
        have nt_29 : t_29.length = 2 := by rw [← ht_29]; rfl
        have Ot_29 : Hid (w_t_29.ownsRow w.heap.size 3 1 (.slice (some ⟨wt_18.heap.size, 0, none⟩) 2 2) 2 (Go.Proofs.YtpcdaoeijlifmaaDoor.HelpInt.iv t_29)) := by
          rw [← hw_t_29, ← ht_29]
          have e_ : ([.int .i64 499, .int .i64 2001] : List Value) = (Go.Proofs.YtpcdaoeijlifmaaDoor.HelpInt.iv ([499, 2001] : List Int)) := rfl
          exact Lib.hid (own_laid (n := 2) hs_t_29 e_ rfl (by unfold maxLen; omega))
        clear hs_t_29
        have hht_29 := Lib.hid ht_29
        clear ht_29
        replace nt_29 := Lib.hid nt_29
        have Dt_29_c0 := Lib.hid (Go.Proofs.YtpcdaoeijlifmaaDoor.GoC.apart_cur Kt_18.out)
        have Dt_29_t_0 := Lib.hid (apart_box kt_0_0__85)
        have Dt_29_x_9 := Lib.hid (apart_box kx_9_0__89)
        have HBw_t_29 := Lib.hid (grown_below HBwt_18.out bw_t_29)
        have kt_0_0__125 := cell_below bw_t_29 kt_0_0__85
        have kt_0_1__126 := cell_below bw_t_29 kt_0_1__86
        have kt_0_2__127 := cell_below bw_t_29 kt_0_2__87
        have kt_0_3__128 := cell_below bw_t_29 kt_0_3__88
        have kx_9_0__129 := cell_below bw_t_29 kx_9_0__89
        have kx_9_1__130 := cell_below bw_t_29 kx_9_1__90
        have kx_9_2__131 := cell_below bw_t_29 kx_9_2__91
        have kx_9_3__132 := cell_below bw_t_29 kx_9_3__92
        replace Kt_18 := Lib.hid (Go.Proofs.YtpcdaoeijlifmaaDoor.GoC.cur_below Kt_18.out bw_t_29)
        replace Ot_0 := Lib.hid (own_below Ot_0.out bw_t_29)
        replace Pb16_16 := Lib.hid (own_below Pb16_16.out bw_t_29)
        clear bw_t_29
        replace H := bind2_hid H
        obtain ⟨t_30, t_30_tp, qt_30, H⟩ := H
        go_wp2_with fail
        clear kt_0_0__85 kt_0_1__86 kt_0_2__87 kt_0_3__88 kx_9_0__89 kx_9_1__90 kx_9_2__91 kx_9_3__92
        have hc_ := nt_29.out
        have hv_ : (Value.slice (some ⟨wt_18.heap.size, 0, none⟩) 2 2 : Value) = Value.slice (some ⟨wt_18.heap.size, 0, none⟩) t_29.length 2 := by rw [hc_]
        try rw [hv_]
        replace Ot_29 := Lib.hid (own_len hc_ Ot_29.out)
        clear hc_ hv_
        go_wp2_with fail
        go_at_call 46
        refine (Go.Proofs.YtpcdaoeijlifmaaDoor.GsL1CurAmong.C (t_18_tp) (t_29) (some ⟨wt_18.heap.size, 0, none⟩) 2 (g0) (Ac0) (cc0) (bc0) _   (Lib.hid (own_cells Ot_29.out)) (Lib.hid (own_max Ot_29.out)) Kt_18 (Lib.hid (fun _ => Dt_29_c0.out)) qt_30).mono ?_
        rintro e_t_30 wt_30 ⟨rfl, kt_30, gt_30⟩
        have Kt_30 := Lib.hid kt_30
        have Gt_30 : Hid (w_t_29.grownBy wt_30 (Value.slice (some ⟨g0, 0, none⟩) 1 1).ownBlock) := Lib.hid gt_30
        clear kt_30 gt_30
        have HBwt_30 := Lib.hid (Aid.grown_tr HBw_t_29.out Gt_30.out)
        replace kt_0_0__125 := cell_other kt_0_0__125 Gt_30.out (Apart.symm Dt_0_c0.out)
        replace kt_0_1__126 := cell_other kt_0_1__126 Gt_30.out (Apart.symm Dt_0_c0.out)
        replace kt_0_2__127 := cell_other kt_0_2__127 Gt_30.out (Apart.symm Dt_0_c0.out)
        replace kt_0_3__128 := cell_other kt_0_3__128 Gt_30.out (Apart.symm Dt_0_c0.out)
        replace kx_9_0__129 := cell_other kx_9_0__129 Gt_30.out (Apart.symm Dx_9_c0.out)
        replace kx_9_1__130 := cell_other kx_9_1__130 Gt_30.out (Apart.symm Dx_9_c0.out)
        replace kx_9_2__131 := cell_other kx_9_2__131 Gt_30.out (Apart.symm Dx_9_c0.out)
        replace kx_9_3__132 := cell_other kx_9_3__132 Gt_30.out (Apart.symm Dx_9_c0.out)
        replace Ot_0 := Lib.hid (own_other Ot_0.out Gt_30.out (Apart.symm Dt_0_c0.out))
        replace Pb16_16 := Lib.hid (own_other Pb16_16.out Gt_30.out (Apart.symm Dx_9_c0.out))
        replace Ot_29 := Lib.hid (own_other Ot_29.out Gt_30.out (Apart.symm Dt_29_c0.out))
        clear Kt_18 Gt_30
        obtain ⟨wb32_32, hwb32_32⟩ : ∃ x, (wt_30).setCell ⟨wt_7.heap.size, 1, none⟩ (.int .i64 t_30) = x := ⟨_, rfl⟩
        have z0b32_32 := Pb16_16.out.frozenAt 1
        have Sb32_32 := Lib.hid (own_stores [(1, .int .i64 t_30)] Pb16_16.out)
        have Pb32_32 : Hid (wb32_32.ownsRow w.heap.size 43 4 (.slice (some ⟨wt_7.heap.size, 0, none⟩) 1 1) 1 [.int .i64 id, .int .i64 t_30, .int .i64 t_3, .bool t_7]) := Lib.hid (by rw [← hwb32_32]; exact Sb32_32.out.1)
        have Gb32_32 : Hid (wt_30.grownBy wb32_32 (Value.slice (some ⟨wt_7.heap.size, 0, none⟩) 1 1).ownBlock) := Lib.hid (by rw [← hwb32_32]; exact Sb32_32.out.2)
        have HBwb32_32 := Lib.hid (Go.Proofs.YtpcdaoeijlifmaaDoor.GoC.grown_new HBwt_30.out Gb32_32.out (Go.Proofs.YtpcdaoeijlifmaaDoor.GoC.own_ge Pb16_16.out))
        clear Sb32_32
        have kt_0_0__133 := cell_other kt_0_0__125 Gb32_32.out Dx_9_t_0.out
        have kt_0_1__134 := cell_other kt_0_1__126 Gb32_32.out Dx_9_t_0.out
        have kt_0_2__135 := cell_other kt_0_2__127 Gb32_32.out Dx_9_t_0.out
        have kt_0_3__136 := cell_other kt_0_3__128 Gb32_32.out Dx_9_t_0.out
        replace Ot_0 := Lib.hid (own_other Ot_0.out Gb32_32.out Dx_9_t_0.out)
        replace Ot_29 := Lib.hid (own_other Ot_29.out Gb32_32.out (Apart.symm Dt_29_x_9.out))
        replace Kt_30 := Lib.hid (Go.Proofs.YtpcdaoeijlifmaaDoor.GoC.cur_other Kt_30.out Gb32_32.out Dx_9_c0.out (fun a_ e_ => Nat.le_trans L0 (Go.Proofs.YtpcdaoeijlifmaaDoor.GoC.own_ge Pb16_16.out a_ e_)))
        clear Pb16_16 Gb32_32
        have kx_9_0__137 : wb32_32.cell? ⟨wt_7.heap.size, 0, none⟩ = some (.int .i64 id) := Pb32_32.out.cells rfl 0 _ rfl
        have kx_9_1__138 : wb32_32.cell? ⟨wt_7.heap.size, 1, none⟩ = some (.int .i64 t_30) := Pb32_32.out.cells rfl 1 _ rfl
        have kx_9_2__139 : wb32_32.cell? ⟨wt_7.heap.size, 2, none⟩ = some (.int .i64 t_3) := Pb32_32.out.cells rfl 2 _ rfl
        have kx_9_3__140 : wb32_32.cell? ⟨wt_7.heap.size, 3, none⟩ = some (.bool t_7) := Pb32_32.out.cells rfl 3 _ rfl
        obtain ⟨wb41_41, hwb41_41⟩ : ∃ x, ((((wb32_32).setCell ⟨w.heap.size, 0, none⟩ (.int .i64 id)).setCell ⟨w.heap.size, 1, none⟩ (.int .i64 t_30)).setCell ⟨w.heap.size, 2, none⟩ (.int .i64 t_3)).setCell ⟨w.heap.size, 3, none⟩ (.bool t_7) = x := ⟨_, rfl⟩
        have z0b41_41 := Ot_0.out.frozenAt 0
        have z1b41_41 := Ot_0.out.frozenAt 1
        have z2b41_41 := Ot_0.out.frozenAt 2
        have z3b41_41 := Ot_0.out.frozenAt 3
        have Sb41_41 := Lib.hid (own_stores [(0, .int .i64 id), (1, .int .i64 t_30), (2, .int .i64 t_3), (3, .bool t_7)] Ot_0.out)
        have Pb41_41 : Hid (wb41_41.ownsRow w.heap.size 43 4 (.slice (some ⟨w.heap.size, 0, none⟩) 1 1) 1 [.int .i64 id, .int .i64 t_30, .int .i64 t_3, .bool t_7]) := Lib.hid (by rw [← hwb41_41]; exact Sb41_41.out.1)
        have Gb41_41 : Hid (wb32_32.grownBy wb41_41 (Value.slice (some ⟨w.heap.size, 0, none⟩) 1 1).ownBlock) := Lib.hid (by rw [← hwb41_41]; exact Sb41_41.out.2)
        have HBwb41_41 := Lib.hid (Go.Proofs.YtpcdaoeijlifmaaDoor.GoC.grown_new HBwb32_32.out Gb41_41.out (Go.Proofs.YtpcdaoeijlifmaaDoor.GoC.own_ge Ot_0.out))
        clear Sb41_41
        have kx_9_0__141 := cell_other kx_9_0__137 Gb41_41.out (Apart.symm Dx_9_t_0.out)
        have kx_9_1__142 := cell_other kx_9_1__138 Gb41_41.out (Apart.symm Dx_9_t_0.out)
        have kx_9_2__143 := cell_other kx_9_2__139 Gb41_41.out (Apart.symm Dx_9_t_0.out)
        have kx_9_3__144 := cell_other kx_9_3__140 Gb41_41.out (Apart.symm Dx_9_t_0.out)
        replace Pb32_32 := Lib.hid (own_other Pb32_32.out Gb41_41.out (Apart.symm Dx_9_t_0.out))
        replace Ot_29 := Lib.hid (own_other Ot_29.out Gb41_41.out (Apart.symm Dt_29_t_0.out))
        replace Kt_30 := Lib.hid (Go.Proofs.YtpcdaoeijlifmaaDoor.GoC.cur_other Kt_30.out Gb41_41.out Dt_0_c0.out (fun a_ e_ => Nat.le_trans L0 (Go.Proofs.YtpcdaoeijlifmaaDoor.GoC.own_ge Ot_0.out a_ e_)))
        clear Ot_0 Gb41_41
        have kt_0_0__145 : wb41_41.cell? ⟨w.heap.size, 0, none⟩ = some (.int .i64 id) := Pb41_41.out.cells rfl 0 _ rfl
        have kt_0_1__146 : wb41_41.cell? ⟨w.heap.size, 1, none⟩ = some (.int .i64 t_30) := Pb41_41.out.cells rfl 1 _ rfl
        have kt_0_2__147 : wb41_41.cell? ⟨w.heap.size, 2, none⟩ = some (.int .i64 t_3) := Pb41_41.out.cells rfl 2 _ rfl
        have kt_0_3__148 : wb41_41.cell? ⟨w.heap.size, 3, none⟩ = some (.bool t_7) := Pb41_41.out.cells rfl 3 _ rfl
        cases ret_hid H
        go_wp2_with fail
        (try simp only [Exit.inBlock, Exit.then])
        refine bodyPost_ret (v := .agg #[.int .i64 id, .int .i64 t_30, .int .i64 t_3, .bool t_7]) ?hr_ ?hd_ ?_
        case hd_ => rfl
        case hr_ => simp [results, Tryd.results67, kt_0_0__145, kt_0_1__146, kt_0_2__147, kt_0_3__148, go_sem]
        exact ⟨rfl, Kt_30.out, HBwb41_41.out⟩
    | true =>
      replace H := ite_t H
      replace H := let_hid H
      obtain ⟨t_22, ht_22, H⟩ := H
      obtain ⟨w_t_22, hw_t_22⟩ : ∃ x, wt_18.alloc (.cells #[.int .i64 0, .int .i64 99, .int .i64 100] 3) = x := ⟨_, rfl⟩
      have bw_t_22 : Below wt_18.heap.size wt_18 w_t_22 := by rw [← hw_t_22]; exact (Below.refl _ _).alloc (Nat.le_refl _) _
      have hs_t_22 := HBwt_18.out.size
      have nt_22 : t_22.length = 3 := by rw [← ht_22]; rfl
      have Ot_22 : Hid (w_t_22.ownsRow w.heap.size 3 1 (.slice (some ⟨wt_18.heap.size, 0, none⟩) 3 3) 3 (Go.Proofs.YtpcdaoeijlifmaaDoor.HelpInt.iv t_22)) := by
        rw [← hw_t_22, ← ht_22]
        have e_ : ([.int .i64 0, .int .i64 99, .int .i64 100] : List Value) = (Go.Proofs.YtpcdaoeijlifmaaDoor.HelpInt.iv ([0, 99, 100] : List Int)) := rfl
        exact Lib.hid (own_laid (n := 3) hs_t_22 e_ rfl (by unfold maxLen; omega))
      clear hs_t_22
      have hht_22 := Lib.hid ht_22
      clear ht_22
      replace nt_22 := Lib.hid nt_22
      have Dt_22_c0 := Lib.hid (Go.Proofs.YtpcdaoeijlifmaaDoor.GoC.apart_cur Kt_18.out)
      have Dt_22_t_0 := Lib.hid (apart_box kt_0_0__85)
      have Dt_22_x_9 := Lib.hid (apart_box kx_9_0__89)
      have HBw_t_22 := Lib.hid (grown_below HBwt_18.out bw_t_22)
      have kt_0_0__149 := cell_below bw_t_22 kt_0_0__85
      have kt_0_1__150 := cell_below bw_t_22 kt_0_1__86
      have kt_0_2__151 := cell_below bw_t_22 kt_0_2__87
      have kt_0_3__152 := cell_below bw_t_22 kt_0_3__88
      have kx_9_0__153 := cell_below bw_t_22 kx_9_0__89
      have kx_9_1__154 := cell_below bw_t_22 kx_9_1__90
      have kx_9_2__155 := cell_below bw_t_22 kx_9_2__91
      have kx_9_3__156 := cell_below bw_t_22 kx_9_3__92
      replace Kt_18 := Lib.hid (Go.Proofs.YtpcdaoeijlifmaaDoor.GoC.cur_below Kt_18.out bw_t_22)
      replace Ot_0 := Lib.hid (own_below Ot_0.out bw_t_22)
      replace Pb16_16 := Lib.hid (own_below Pb16_16.out bw_t_22)
      clear bw_t_22
      replace H := bind2_hid H
      obtain ⟨t_23, t_23_tp, qt_23, H⟩ := H
      go_wp2_with fail
      clear kt_0_0__85 kt_0_1__86 kt_0_2__87 kt_0_3__88 kx_9_0__89 kx_9_1__90 kx_9_2__91 kx_9_3__92
      have hc_ := nt_22.out
      have hv_ : (Value.slice (some ⟨wt_18.heap.size, 0, none⟩) 3 3 : Value) = Value.slice (some ⟨wt_18.heap.size, 0, none⟩) t_22.length 3 := by rw [hc_]
      try rw [hv_]
      replace Ot_22 := Lib.hid (own_len hc_ Ot_22.out)
      clear hc_ hv_
      go_wp2_with fail
      go_at_call 46
      refine (Go.Proofs.YtpcdaoeijlifmaaDoor.GsL1CurAmong.C (t_18_tp) (t_22) (some ⟨wt_18.heap.size, 0, none⟩) 3 (g0) (Ac0) (cc0) (bc0) _   (Lib.hid (own_cells Ot_22.out)) (Lib.hid (own_max Ot_22.out)) Kt_18 (Lib.hid (fun _ => Dt_22_c0.out)) qt_23).mono ?_
      rintro e_t_23 wt_23 ⟨rfl, kt_23, gt_23⟩
      have Kt_23 := Lib.hid kt_23
      have Gt_23 : Hid (w_t_22.grownBy wt_23 (Value.slice (some ⟨g0, 0, none⟩) 1 1).ownBlock) := Lib.hid gt_23
      clear kt_23 gt_23
      have HBwt_23 := Lib.hid (Aid.grown_tr HBw_t_22.out Gt_23.out)
      replace kt_0_0__149 := cell_other kt_0_0__149 Gt_23.out (Apart.symm Dt_0_c0.out)
      replace kt_0_1__150 := cell_other kt_0_1__150 Gt_23.out (Apart.symm Dt_0_c0.out)
      replace kt_0_2__151 := cell_other kt_0_2__151 Gt_23.out (Apart.symm Dt_0_c0.out)
      replace kt_0_3__152 := cell_other kt_0_3__152 Gt_23.out (Apart.symm Dt_0_c0.out)
      replace kx_9_0__153 := cell_other kx_9_0__153 Gt_23.out (Apart.symm Dx_9_c0.out)
      replace kx_9_1__154 := cell_other kx_9_1__154 Gt_23.out (Apart.symm Dx_9_c0.out)
      replace kx_9_2__155 := cell_other kx_9_2__155 Gt_23.out (Apart.symm Dx_9_c0.out)
      replace kx_9_3__156 := cell_other kx_9_3__156 Gt_23.out (Apart.symm Dx_9_c0.out)
      replace Ot_0 := Lib.hid (own_other Ot_0.out Gt_23.out (Apart.symm Dt_0_c0.out))
      replace Pb16_16 := Lib.hid (own_other Pb16_16.out Gt_23.out (Apart.symm Dx_9_c0.out))
      replace Ot_22 := Lib.hid (own_other Ot_22.out Gt_23.out (Apart.symm Dt_22_c0.out))
      clear Kt_18 Gt_23
      obtain ⟨wb25_25, hwb25_25⟩ : ∃ x, (wt_23).setCell ⟨wt_7.heap.size, 0, none⟩ (.int .i64 t_23) = x := ⟨_, rfl⟩
      have z0b25_25 := Pb16_16.out.frozenAt 0
      have Sb25_25 := Lib.hid (own_stores [(0, .int .i64 t_23)] Pb16_16.out)
      have Pb25_25 : Hid (wb25_25.ownsRow w.heap.size 43 4 (.slice (some ⟨wt_7.heap.size, 0, none⟩) 1 1) 1 [.int .i64 t_23, .int .i64 t_3, .int .i64 t_3, .bool t_7]) := Lib.hid (by rw [← hwb25_25]; exact Sb25_25.out.1)
      have Gb25_25 : Hid (wt_23.grownBy wb25_25 (Value.slice (some ⟨wt_7.heap.size, 0, none⟩) 1 1).ownBlock) := Lib.hid (by rw [← hwb25_25]; exact Sb25_25.out.2)
      have HBwb25_25 := Lib.hid (Go.Proofs.YtpcdaoeijlifmaaDoor.GoC.grown_new HBwt_23.out Gb25_25.out (Go.Proofs.YtpcdaoeijlifmaaDoor.GoC.own_ge Pb16_16.out))
      clear Sb25_25
      have kt_0_0__157 := cell_other kt_0_0__149 Gb25_25.out Dx_9_t_0.out
      have kt_0_1__158 := cell_other kt_0_1__150 Gb25_25.out Dx_9_t_0.out
      have kt_0_2__159 := cell_other kt_0_2__151 Gb25_25.out Dx_9_t_0.out
      have kt_0_3__160 := cell_other kt_0_3__152 Gb25_25.out Dx_9_t_0.out
      replace Ot_0 := Lib.hid (own_other Ot_0.out Gb25_25.out Dx_9_t_0.out)
      replace Ot_22 := Lib.hid (own_other Ot_22.out Gb25_25.out (Apart.symm Dt_22_x_9.out))
      replace Kt_23 := Lib.hid (Go.Proofs.YtpcdaoeijlifmaaDoor.GoC.cur_other Kt_23.out Gb25_25.out Dx_9_c0.out (fun a_ e_ => Nat.le_trans L0 (Go.Proofs.YtpcdaoeijlifmaaDoor.GoC.own_ge Pb16_16.out a_ e_)))
      clear Pb16_16 Gb25_25
      have kx_9_0__161 : wb25_25.cell? ⟨wt_7.heap.size, 0, none⟩ = some (.int .i64 t_23) := Pb25_25.out.cells rfl 0 _ rfl
      have kx_9_1__162 : wb25_25.cell? ⟨wt_7.heap.size, 1, none⟩ = some (.int .i64 t_3) := Pb25_25.out.cells rfl 1 _ rfl
      have kx_9_2__163 : wb25_25.cell? ⟨wt_7.heap.size, 2, none⟩ = some (.int .i64 t_3) := Pb25_25.out.cells rfl 2 _ rfl
      have kx_9_3__164 : wb25_25.cell? ⟨wt_7.heap.size, 3, none⟩ = some (.bool t_7) := Pb25_25.out.cells rfl 3 _ rfl
      obtain ⟨wb41_41, hwb41_41⟩ : ∃ x, ((((wb25_25).setCell ⟨w.heap.size, 0, none⟩ (.int .i64 t_23)).setCell ⟨w.heap.size, 1, none⟩ (.int .i64 t_3)).setCell ⟨w.heap.size, 2, none⟩ (.int .i64 t_3)).setCell ⟨w.heap.size, 3, none⟩ (.bool t_7) = x := ⟨_, rfl⟩
      have z0b41_41 := Ot_0.out.frozenAt 0
      have z1b41_41 := Ot_0.out.frozenAt 1
      have z2b41_41 := Ot_0.out.frozenAt 2
      have z3b41_41 := Ot_0.out.frozenAt 3
      have Sb41_41 := Lib.hid (own_stores [(0, .int .i64 t_23), (1, .int .i64 t_3), (2, .int .i64 t_3), (3, .bool t_7)] Ot_0.out)
      have Pb41_41 : Hid (wb41_41.ownsRow w.heap.size 43 4 (.slice (some ⟨w.heap.size, 0, none⟩) 1 1) 1 [.int .i64 t_23, .int .i64 t_3, .int .i64 t_3, .bool t_7]) := Lib.hid (by rw [← hwb41_41]; exact Sb41_41.out.1)
      have Gb41_41 : Hid (wb25_25.grownBy wb41_41 (Value.slice (some ⟨w.heap.size, 0, none⟩) 1 1).ownBlock) := Lib.hid (by rw [← hwb41_41]; exact Sb41_41.out.2)
      have HBwb41_41 := Lib.hid (Go.Proofs.YtpcdaoeijlifmaaDoor.GoC.grown_new HBwb25_25.out Gb41_41.out (Go.Proofs.YtpcdaoeijlifmaaDoor.GoC.own_ge Ot_0.out))
      clear Sb41_41
      have kx_9_0__165 := cell_other kx_9_0__161 Gb41_41.out (Apart.symm Dx_9_t_0.out)
      have kx_9_1__166 := cell_other kx_9_1__162 Gb41_41.out (Apart.symm Dx_9_t_0.out)
      have kx_9_2__167 := cell_other kx_9_2__163 Gb41_41.out (Apart.symm Dx_9_t_0.out)
      have kx_9_3__168 := cell_other kx_9_3__164 Gb41_41.out (Apart.symm Dx_9_t_0.out)
      replace Pb25_25 := Lib.hid (own_other Pb25_25.out Gb41_41.out (Apart.symm Dx_9_t_0.out))
      replace Ot_22 := Lib.hid (own_other Ot_22.out Gb41_41.out (Apart.symm Dt_22_t_0.out))
      replace Kt_23 := Lib.hid (Go.Proofs.YtpcdaoeijlifmaaDoor.GoC.cur_other Kt_23.out Gb41_41.out Dt_0_c0.out (fun a_ e_ => Nat.le_trans L0 (Go.Proofs.YtpcdaoeijlifmaaDoor.GoC.own_ge Ot_0.out a_ e_)))
      clear Ot_0 Gb41_41
      have kt_0_0__169 : wb41_41.cell? ⟨w.heap.size, 0, none⟩ = some (.int .i64 t_23) := Pb41_41.out.cells rfl 0 _ rfl
      have kt_0_1__170 : wb41_41.cell? ⟨w.heap.size, 1, none⟩ = some (.int .i64 t_3) := Pb41_41.out.cells rfl 1 _ rfl
      have kt_0_2__171 : wb41_41.cell? ⟨w.heap.size, 2, none⟩ = some (.int .i64 t_3) := Pb41_41.out.cells rfl 2 _ rfl
      have kt_0_3__172 : wb41_41.cell? ⟨w.heap.size, 3, none⟩ = some (.bool t_7) := Pb41_41.out.cells rfl 3 _ rfl
      cases ret_hid H
      go_wp2_with fail
      (try simp only [Exit.inBlock, Exit.then])
      refine bodyPost_ret (v := .agg #[.int .i64 t_23, .int .i64 t_3, .int .i64 t_3, .bool t_7]) ?hr_ ?hd_ ?_
      case hd_ => rfl
      case hr_ => simp [results, Tryd.results67, kt_0_0__169, kt_0_1__170, kt_0_2__171, kt_0_3__172, go_sem]
      exact ⟨rfl, Kt_23.out, HBwb41_41.out⟩
end Go.Proofs.YtpcdaoeijlifmaaDoor.GsL1CurComb5

/- (*loop.example/g01062/spec.l1Cur).combs5 as a plain function, and the contract of the program's: where the plain one has an answer, the program has it. Conditions: slices read as lists. -/
namespace Go.Proofs.YtpcdaoeijlifmaaDoor.GsL1CurCombs5
set_option linter.unusedVariables false
set_option linter.unusedSimpArgs false
open Go.RowKit
open Go.Proofs.YtpcdaoeijlifmaaDoor.Rowed Go.Proofs.YtpcdaoeijlifmaaDoor.Turn Go.Proofs.YtpcdaoeijlifmaaDoor.Aid Go.Proofs.YtpcdaoeijlifmaaDoor.GoP Go.Proofs.YtpcdaoeijlifmaaDoor.GoM

def l0  (s : (List Go.Proofs.YtpcdaoeijlifmaaDoor.PComb.Comb) × Int × Int × Go.Proofs.YtpcdaoeijlifmaaDoor.GoC.Tape) (nx0 bk0 : (List Go.Proofs.YtpcdaoeijlifmaaDoor.PComb.Comb) × Int × Int × Go.Proofs.YtpcdaoeijlifmaaDoor.GoC.Tape → Option ((List Go.Proofs.YtpcdaoeijlifmaaDoor.PComb.Comb) × Go.Proofs.YtpcdaoeijlifmaaDoor.GoC.Tape)) : Option ((List Go.Proofs.YtpcdaoeijlifmaaDoor.PComb.Comb) × Go.Proofs.YtpcdaoeijlifmaaDoor.GoC.Tape) :=
  unp4 s fun out_3l0 id_4l0 n_5l0 c0_c0l0 =>
  letK (decide (0 < n_5l0)) fun (t_8 : Bool) =>
  iteK t_8
  (letK (IntKind.i64.wrap (id_4l0 + 1)) fun (t_10 : Int) =>
  bind2 (Go.Proofs.YtpcdaoeijlifmaaDoor.GsL1CurPick.P c0_c0l0 3) fun (t_12 : Int) (t_12_tp : Go.Proofs.YtpcdaoeijlifmaaDoor.GoC.Tape) =>
  letK (IntKind.i64.wrap (t_10 + t_12)) fun (t_13 : Int) =>
  bind2 (Go.Proofs.YtpcdaoeijlifmaaDoor.GsL1CurPick.P t_12_tp 150) fun (t_15 : Int) (t_15_tp : Go.Proofs.YtpcdaoeijlifmaaDoor.GoC.Tape) =>
  letK (IntKind.i64.wrap (Int.tdiv t_15 149)) fun (t_16 : Int) =>
  letK (IntKind.i64.wrap (t_13 - t_16)) fun (t_17 : Int) =>
  bind2 (Go.Proofs.YtpcdaoeijlifmaaDoor.GsL1CurComb5.P t_15_tp t_17) fun (t_22 : Go.Proofs.YtpcdaoeijlifmaaDoor.PComb.Comb) (t_22_tp : Go.Proofs.YtpcdaoeijlifmaaDoor.GoC.Tape) =>
  unComb t_22 fun (t_22_id : Int) (t_22_wide : Int) (t_22_high : Int) (t_22_line : Bool) =>
  guardK (out_3l0.length ≤ 1099511627776) <|
  letK (out_3l0 ++ [(Go.Proofs.YtpcdaoeijlifmaaDoor.PComb.Comb.mk t_22_id t_22_wide t_22_high t_22_line)]) fun (t_24 : (List Go.Proofs.YtpcdaoeijlifmaaDoor.PComb.Comb)) =>
  letK (IntKind.i64.wrap (n_5l0 - 1)) fun (t_27 : Int) =>
  appK nx0 (t_24, t_17, t_27, t_22_tp))
  (appK bk0 (out_3l0, id_4l0, n_5l0, c0_c0l0))

def j0  (s : (List Go.Proofs.YtpcdaoeijlifmaaDoor.PComb.Comb) × Go.Proofs.YtpcdaoeijlifmaaDoor.GoC.Tape) : Option ((List Go.Proofs.YtpcdaoeijlifmaaDoor.PComb.Comb) × Go.Proofs.YtpcdaoeijlifmaaDoor.GoC.Tape) :=
  unp2 s fun out_3j0 c0_c0j0 =>
  some (out_3j0, c0_c0j0)

def l1  (s : (List Go.Proofs.YtpcdaoeijlifmaaDoor.PComb.Comb) × Int × Go.Proofs.YtpcdaoeijlifmaaDoor.GoC.Tape) (nx1 bk1 : (List Go.Proofs.YtpcdaoeijlifmaaDoor.PComb.Comb) × Int × Go.Proofs.YtpcdaoeijlifmaaDoor.GoC.Tape → Option ((List Go.Proofs.YtpcdaoeijlifmaaDoor.PComb.Comb) × Go.Proofs.YtpcdaoeijlifmaaDoor.GoC.Tape)) : Option ((List Go.Proofs.YtpcdaoeijlifmaaDoor.PComb.Comb) × Go.Proofs.YtpcdaoeijlifmaaDoor.GoC.Tape) :=
  unp3 s fun out_3l1 n_6l1 c0_c0l1 =>
  bind2 (Go.Proofs.YtpcdaoeijlifmaaDoor.GsL1CurPick.P c0_c0l1 2) fun (t_36 : Int) (t_36_tp : Go.Proofs.YtpcdaoeijlifmaaDoor.GoC.Tape) =>
  letK (IntKind.i64.wrap (10 + t_36)) fun (t_37 : Int) =>
  letK (decide (n_6l1 < t_37)) fun (t_38 : Bool) =>
  iteK t_38
  (letK (IntKind.i64.wrap (n_6l1 + 1)) fun (t_41 : Int) =>
  letK (Int.tmod n_6l1 3) fun (t_43 : Int) =>
  letK (IntKind.i64.wrap (50 * t_43)) fun (t_44 : Int) =>
  letK (IntKind.i64.wrap (1100 + t_44)) fun (t_45 : Int) =>
  guardK (out_3l1.length ≤ 1099511627776) <|
  letK (out_3l1 ++ [(Go.Proofs.YtpcdaoeijlifmaaDoor.PComb.Comb.mk t_41 t_45 1200 false)]) fun (t_48 : (List Go.Proofs.YtpcdaoeijlifmaaDoor.PComb.Comb)) =>
  letK (IntKind.i64.wrap (n_6l1 + 1)) fun (t_51 : Int) =>
  appK nx1 (t_48, t_51, t_36_tp))
  (appK bk1 (out_3l1, n_6l1, t_36_tp))

def e1 (c : Go.Proofs.YtpcdaoeijlifmaaDoor.GoC.Tape) (t_5 : Int) (t_5_tp : Go.Proofs.YtpcdaoeijlifmaaDoor.GoC.Tape) (out_3l0 : (List Go.Proofs.YtpcdaoeijlifmaaDoor.PComb.Comb)) (id_4l0 : Int) (n_5l0 : Int) (c0_c0l0 : Go.Proofs.YtpcdaoeijlifmaaDoor.GoC.Tape) (t_30 : Bool) (t_30_tp : Go.Proofs.YtpcdaoeijlifmaaDoor.GoC.Tape) (s : (List Go.Proofs.YtpcdaoeijlifmaaDoor.PComb.Comb) × Int × Go.Proofs.YtpcdaoeijlifmaaDoor.GoC.Tape) : Option ((List Go.Proofs.YtpcdaoeijlifmaaDoor.PComb.Comb) × Go.Proofs.YtpcdaoeijlifmaaDoor.GoC.Tape) :=
  unp3 s fun out_3l1 n_6l1 c0_c0l1 =>
  j0  (out_3l1, c0_c0l1)

def e0 (c : Go.Proofs.YtpcdaoeijlifmaaDoor.GoC.Tape) (fuel : Nat) (t_5 : Int) (t_5_tp : Go.Proofs.YtpcdaoeijlifmaaDoor.GoC.Tape) (s : (List Go.Proofs.YtpcdaoeijlifmaaDoor.PComb.Comb) × Int × Int × Go.Proofs.YtpcdaoeijlifmaaDoor.GoC.Tape) : Option ((List Go.Proofs.YtpcdaoeijlifmaaDoor.PComb.Comb) × Go.Proofs.YtpcdaoeijlifmaaDoor.GoC.Tape) :=
  unp4 s fun out_3l0 id_4l0 n_5l0 c0_c0l0 =>
  bind2 (Go.Proofs.YtpcdaoeijlifmaaDoor.GsL1CurOne.P c0_c0l0 24) fun (t_30 : Bool) (t_30_tp : Go.Proofs.YtpcdaoeijlifmaaDoor.GoC.Tape) =>
  iteK t_30
  (loopK (l1 ) fuel (([] : List Go.Proofs.YtpcdaoeijlifmaaDoor.PComb.Comb), 0, t_30_tp) (e1 c t_5 t_5_tp out_3l0 id_4l0 n_5l0 c0_c0l0 t_30 t_30_tp))
  (j0  (out_3l0, t_30_tp))

def P (fuel : Nat) (c : Go.Proofs.YtpcdaoeijlifmaaDoor.GoC.Tape) : Option ((List Go.Proofs.YtpcdaoeijlifmaaDoor.PComb.Comb) × Go.Proofs.YtpcdaoeijlifmaaDoor.GoC.Tape) :=
  bind2 (Go.Proofs.YtpcdaoeijlifmaaDoor.GsL1CurPick.P c 7) fun (t_5 : Int) (t_5_tp : Go.Proofs.YtpcdaoeijlifmaaDoor.GoC.Tape) =>
  loopK (l0 ) fuel (([] : List Go.Proofs.YtpcdaoeijlifmaaDoor.PComb.Comb), 0, t_5, t_5_tp) (e0 c fuel t_5 t_5_tp)

set_option maxRecDepth 100000 in
set_option maxHeartbeats 2000000 in
theorem C (fuel : Nat) (c : Go.Proofs.YtpcdaoeijlifmaaDoor.GoC.Tape)   (g0 : Nat) (Ac0 : Option Addr) (cc0 : Nat) (bc0 : Nat) (w : World)   (K0 : Hid (Go.Proofs.YtpcdaoeijlifmaaDoor.GoC.CurIs w bc0 g0 Ac0 cc0 c)) {r : (List Go.Proofs.YtpcdaoeijlifmaaDoor.PComb.Comb)} {t_ : Go.Proofs.YtpcdaoeijlifmaaDoor.GoC.Tape} (H : Hid (P fuel c = some (r, t_))) :
    Calls Tryd.prog 45 #[.pointer (some ⟨g0, 0, none⟩)] w (fun e w' => ∃ A_r c_r, e = .returned (.slice A_r r.length c_r) ∧ w'.ownsRow w.heap.size 43 4 (.slice A_r r.length c_r) r.length (Go.Proofs.YtpcdaoeijlifmaaDoor.PComb.flat r) ∧ Go.Proofs.YtpcdaoeijlifmaaDoor.GoC.CurIs w' bc0 g0 Ac0 cc0 t_ ∧ w.grownBy w' (Value.slice (some ⟨g0, 0, none⟩) 1 1).ownBlock) := by
  have HB := Lib.hid (Aid.grown_refl w (Value.slice (some ⟨g0, 0, none⟩) 1 1).ownBlock)
  unfold P at H
  have L0 : bc0 ≤ w.heap.size := by have := Go.Proofs.YtpcdaoeijlifmaaDoor.GoC.cur_lt K0.out; omega
  obtain ⟨i0_43, hi_43, hz0_43, hz1_43, hz2_43⟩ := Aid.info_parts (P := Tryd.prog) (T := 43) (z := .agg #[.int .i64 0, .int .i64 0, .int .i64 0, .bool false]) (s := 4) (b := 32) (by kernel_rfl)
  go_enter Tryd.func45, Tryd.ntmps45
  obtain ⟨w_t_1, hw_t_1⟩ : ∃ x, w.alloc (.cells #[] 43) = x := ⟨_, rfl⟩
  have bw_t_1 : Below w.heap.size w w_t_1 := by rw [← hw_t_1]; exact (Below.refl _ _).alloc (Nat.le_refl _) _
  have Ot_1 : Hid (w_t_1.ownsRow w.heap.size 43 4 (.slice (some ⟨w.heap.size, 0, none⟩) 0 0) 0 []) := Lib.hid (by rw [← hw_t_1]; exact own_empty HB.out.size)
  have Dt_1_c0 := Lib.hid (Go.Proofs.YtpcdaoeijlifmaaDoor.GoC.apart_cur K0.out)
  have HBw_t_1 := Lib.hid (grown_below HB.out bw_t_1)
  replace K0 := Lib.hid (Go.Proofs.YtpcdaoeijlifmaaDoor.GoC.cur_below K0.out bw_t_1)
  clear bw_t_1
  replace H := bind2_hid H
  obtain ⟨t_5, t_5_tp, qt_5, H⟩ := H
  go_wp2_with fail
  go_at_call 47
  refine (Go.Proofs.YtpcdaoeijlifmaaDoor.GsL1CurPick.C (c) (7) (g0) (Ac0) (cc0) (bc0) _   K0 qt_5).mono ?_
  rintro e_t_5 wt_5 ⟨rfl, kt_5, gt_5⟩
  have Kt_5 := Lib.hid kt_5
  have Gt_5 : Hid (w_t_1.grownBy wt_5 (Value.slice (some ⟨g0, 0, none⟩) 1 1).ownBlock) := Lib.hid gt_5
  clear kt_5 gt_5
  have HBwt_5 := Lib.hid (Aid.grown_tr HBw_t_1.out Gt_5.out)
  replace Ot_1 := Lib.hid (own_other Ot_1.out Gt_5.out (Apart.symm Dt_1_c0.out))
  clear K0 Gt_5
  go_wp2_with fail
  go_loopg [3, 4, 5] (fuel) (fun m_ v3_ v4_ v5_ wr => ∃ (out_3l0 : (List Go.Proofs.YtpcdaoeijlifmaaDoor.PComb.Comb)) (id_4l0 : Int) (n_5l0 : Int) (c0_c0l0 : Go.Proofs.YtpcdaoeijlifmaaDoor.GoC.Tape) (Aout_3l0 : Option Addr) (cout_3l0 : Nat), v3_ = .slice Aout_3l0 out_3l0.length cout_3l0 ∧ v4_ = .int .i64 id_4l0 ∧ v5_ = .int .i64 n_5l0 ∧ Hid (loopK (l0 ) m_ (out_3l0, id_4l0, n_5l0, c0_c0l0) (e0 c fuel t_5 t_5_tp) = some (r, t_)) ∧ Hid (w.grownBy wr (Value.slice (some ⟨g0, 0, none⟩) 1 1).ownBlock) ∧ Hid (wr.ownsRow w.heap.size 43 4 (.slice Aout_3l0 out_3l0.length cout_3l0) out_3l0.length (Go.Proofs.YtpcdaoeijlifmaaDoor.PComb.flat out_3l0)) ∧ Hid (Apart Aout_3l0 (some ⟨g0, 0, none⟩)) ∧ Hid (Go.Proofs.YtpcdaoeijlifmaaDoor.GoC.CurIs wr bc0 g0 Ac0 cc0 c0_c0l0))
  case atStart => exact ⟨_, _, _, _, _, _, rfl, rfl, rfl, H, HBwt_5, Ot_1, Lib.hid Dt_1_c0.out, Kt_5⟩
  case round =>
    obtain ⟨out_3l0, id_4l0, n_5l0, c0_c0l0, Aout_3l0, cout_3l0, rfl, rfl, rfl, H, HBwr0, Oout_3l0, Dout_3l0_c0, Kl0_0⟩ := hrel
    rename World => wr0
    cases gk with
    | zero => exact (loop_zero H).elim
    | succ m0 =>
      replace H := loop_succ H
      unfold l0 at H
      replace H := unp4_hid H
      replace H := let_hid H
      obtain ⟨t_8, ht_8, H⟩ := H
      cases t_8 with
      | false =>
        replace H := ite_f H
        replace H := app_hid H
        unfold e0 at H
        replace H := unp4_hid H
        replace H := bind2_hid H
        obtain ⟨t_30, t_30_tp, qt_30, H⟩ := H
        go_wp2_with fail
        go_at_call 48
        refine (Go.Proofs.YtpcdaoeijlifmaaDoor.GsL1CurOne.C (c0_c0l0) (24) (g0) (Ac0) (cc0) (bc0) _   Kl0_0 qt_30).mono ?_
        rintro e_t_30 wt_30 ⟨rfl, kt_30, gt_30⟩
        have Kt_30 := Lib.hid kt_30
        have Gt_30 : Hid (wr0.grownBy wt_30 (Value.slice (some ⟨g0, 0, none⟩) 1 1).ownBlock) := Lib.hid gt_30
        clear kt_30 gt_30
        have HBwt_30 := Lib.hid (Aid.grown_tr HBwr0.out Gt_30.out)
        replace Oout_3l0 := Lib.hid (own_other Oout_3l0.out Gt_30.out (Apart.symm Dout_3l0_c0.out))
        clear Kl0_0 Gt_30
        cases t_30 with
        | false =>
          replace H := ite_f H
          unfold j0 at H
          replace H := unp2_hid H
          cases ret_hid H
          go_wp2_with fail
          go_ret
          exact ⟨Aout_3l0, cout_3l0, rfl, Oout_3l0.out, Kt_30.out, HBwt_30.out⟩
        | true =>
          replace H := ite_t H
          obtain ⟨w_t_31, hw_t_31⟩ : ∃ x, wt_30.alloc (.cells #[] 43) = x := ⟨_, rfl⟩
          have bw_t_31 : Below wt_30.heap.size wt_30 w_t_31 := by rw [← hw_t_31]; exact (Below.refl _ _).alloc (Nat.le_refl _) _
          have Ot_31 : Hid (w_t_31.ownsRow w.heap.size 43 4 (.slice (some ⟨wt_30.heap.size, 0, none⟩) 0 0) 0 []) := Lib.hid (by rw [← hw_t_31]; exact own_empty HBwt_30.out.size)
          have Dt_31_out_3l0 := Lib.hid (apart_fresh Oout_3l0.out)
          have Dt_31_c0 := Lib.hid (Go.Proofs.YtpcdaoeijlifmaaDoor.GoC.apart_cur Kt_30.out)
          have HBw_t_31 := Lib.hid (grown_below HBwt_30.out bw_t_31)
          replace Oout_3l0 := Lib.hid (own_below Oout_3l0.out bw_t_31)
          replace Kt_30 := Lib.hid (Go.Proofs.YtpcdaoeijlifmaaDoor.GoC.cur_below Kt_30.out bw_t_31)
          clear bw_t_31
          go_wp2_with fail
          go_loopg [3, 6] (fuel) (fun m_ v3_ v6_ wr => ∃ (out_3l1 : (List Go.Proofs.YtpcdaoeijlifmaaDoor.PComb.Comb)) (n_6l1 : Int) (c0_c0l1 : Go.Proofs.YtpcdaoeijlifmaaDoor.GoC.Tape) (Aout_3l1 : Option Addr) (cout_3l1 : Nat), v3_ = .slice Aout_3l1 out_3l1.length cout_3l1 ∧ v6_ = .int .i64 n_6l1 ∧ Hid (loopK (l1 ) m_ (out_3l1, n_6l1, c0_c0l1) (e1 c t_5 t_5_tp out_3l0 id_4l0 n_5l0 c0_c0l0 true t_30_tp) = some (r, t_)) ∧ Hid (w.grownBy wr (Value.slice (some ⟨g0, 0, none⟩) 1 1).ownBlock) ∧ Hid (wr.ownsRow w.heap.size 43 4 (.slice Aout_3l1 out_3l1.length cout_3l1) out_3l1.length (Go.Proofs.YtpcdaoeijlifmaaDoor.PComb.flat out_3l1)) ∧ Hid (Apart Aout_3l1 (some ⟨g0, 0, none⟩)) ∧ Hid (Go.Proofs.YtpcdaoeijlifmaaDoor.GoC.CurIs wr bc0 g0 Ac0 cc0 c0_c0l1))
          case atStart => exact ⟨_, _, _, _, _, rfl, rfl, H, HBw_t_31, Ot_31, Lib.hid Dt_31_c0.out, Kt_30⟩
          case round =>
            obtain ⟨out_3l1, n_6l1, c0_c0l1, Aout_3l1, cout_3l1, rfl, rfl, H, HBwr1, Oout_3l1, Dout_3l1_c0, Kl1_0⟩ := hrel
            rename World => wr1
            cases gk with
            | zero => exact (loop_zero H).elim
            | succ m1 =>
              replace H := loop_succ H
              unfold l1 at H
              replace H := unp3_hid H
              replace H := bind2_hid H
              obtain ⟨t_36, t_36_tp, qt_36, H⟩ := H
              go_wp2_with fail
              go_at_call 47
              refine (Go.Proofs.YtpcdaoeijlifmaaDoor.GsL1CurPick.C (c0_c0l1) (2) (g0) (Ac0) (cc0) (bc0) _   Kl1_0 qt_36).mono ?_
              rintro e_t_36 wt_36 ⟨rfl, kt_36, gt_36⟩
              have Kt_36 := Lib.hid kt_36
              have Gt_36 : Hid (wr1.grownBy wt_36 (Value.slice (some ⟨g0, 0, none⟩) 1 1).ownBlock) := Lib.hid gt_36
              clear kt_36 gt_36
              have HBwt_36 := Lib.hid (Aid.grown_tr HBwr1.out Gt_36.out)
              replace Oout_3l1 := Lib.hid (own_other Oout_3l1.out Gt_36.out (Apart.symm Dout_3l1_c0.out))
              clear Kl1_0 Gt_36
              replace H := let_hid H
              obtain ⟨t_37, ht_37, H⟩ := H
              replace H := let_hid H
              obtain ⟨t_38, ht_38, H⟩ := H
              cases t_38 with
              | false =>
                replace H := ite_f H
                replace H := app_hid H
                unfold e1 at H
                replace H := unp3_hid H
                unfold j0 at H
                replace H := unp2_hid H
                cases ret_hid H
                go_wp2_with fail
                go_ret
                exact ⟨Aout_3l1, cout_3l1, rfl, Oout_3l1.out, Kt_36.out, HBwt_36.out⟩
              | true =>
                replace H := ite_t H
                replace H := let_hid H
                obtain ⟨t_41, ht_41, H⟩ := H
                replace H := let_hid H
                obtain ⟨t_43, ht_43, H⟩ := H
                replace H := let_hid H
                obtain ⟨t_44, ht_44, H⟩ := H
                replace H := let_hid H
                obtain ⟨t_45, ht_45, H⟩ := H
                obtain ⟨w_t_47, hw_t_47⟩ : ∃ x, wt_36.alloc (.cells #[.int .i64 t_41, .int .i64 t_45, .int .i64 1200, .bool false] 43) = x := ⟨_, rfl⟩
                have bw_t_47 : Below wt_36.heap.size wt_36 w_t_47 := by rw [← hw_t_47]; exact (Below.refl _ _).alloc (Nat.le_refl _) _
                have HBw_t_47 := Lib.hid (grown_below HBwt_36.out bw_t_47)
                replace Oout_3l1 := Lib.hid (own_below Oout_3l1.out bw_t_47)
                replace Kt_36 := Lib.hid (Go.Proofs.YtpcdaoeijlifmaaDoor.GoC.cur_below Kt_36.out bw_t_47)
                clear bw_t_47
                replace H := guard_hid H
                obtain ⟨hlt_48, H⟩ := H
                replace H := let_hid H
                obtain ⟨t_48, ht_48, H⟩ := H
                have hht_48 := Lib.hid ht_48
                clear ht_48
                have hst_48 := HBw_t_47.out.size
                go_wp2_with (at_builtin; refine wpList_append_own_at _ rfl _ _ 35 rfl w.heap.size 43 i0_43 (.agg #[.int .i64 0, .int .i64 0, .int .i64 0, .bool false]) 4 32 Tryd.underlying35 hi_43 hz0_43 hz1_43 hz2_43 rfl (by decide) _ _ _ rfl Oout_3l1.out ⟨wt_36.heap.size, 0, none⟩ 1 1 [.int .i64 t_41, .int .i64 t_45, .int .i64 1200, .bool false] rfl rfl (news_new hw_t_47) (one_cells rfl) (by unfold maxLen; omega) (by omega) hst_48 ?_; intro vt_48 wt_48 ot_48 gt_48 zt_48 yt_48; clear zt_48; obtain ⟨qt_48, ct_48, rfl, pt_48⟩ := own_push hht_48.out (Go.Proofs.YtpcdaoeijlifmaaDoor.PComb.flat_snoc _ _) rfl ot_48; have Pt_48 := Lib.hid pt_48; have Yt_48 := Lib.hid yt_48; have Gt_48 := Lib.hid gt_48; clear ot_48 gt_48 pt_48 yt_48; refine stop_in ?_)
                refine stop_out ?_
                have HBwt_48 := Lib.hid (Go.Proofs.YtpcdaoeijlifmaaDoor.GoC.grown_new HBw_t_47.out Gt_48.out (Go.Proofs.YtpcdaoeijlifmaaDoor.GoC.own_ge Oout_3l1.out))
                clear hst_48
                have Dt_48_c0 : Hid (Apart (some ⟨qt_48, 0, none⟩) _) := Lib.hid (apart_app Dout_3l1_c0.out (fun a_ ha_ => by cases ha_; exact (Go.Proofs.YtpcdaoeijlifmaaDoor.GoC.cur_lt Kt_36.out).2) Yt_48.out)
                replace Kt_36 := Lib.hid (Go.Proofs.YtpcdaoeijlifmaaDoor.GoC.cur_other Kt_36.out Gt_48.out Dout_3l1_c0.out (fun a_ e_ => Nat.le_trans L0 (Go.Proofs.YtpcdaoeijlifmaaDoor.GoC.own_ge Oout_3l1.out a_ e_)))
                clear Oout_3l1 Yt_48 Gt_48
                replace H := let_hid H
                obtain ⟨t_51, ht_51, H⟩ := H
                obtain rfl := ht_41.symm.trans ht_51
                replace H := app_hid H
                go_wp2_with fail
                go_roundg m1
                case measure => omega
                case rel => exact ⟨_, _, _, _, _, rfl, rfl, H, HBwt_48, Pt_48, Lib.hid Dt_48_c0.out, Kt_36⟩
      | true =>
        replace H := ite_t H
        replace H := let_hid H
        obtain ⟨t_10, ht_10, H⟩ := H
        replace H := bind2_hid H
        obtain ⟨t_12, t_12_tp, qt_12, H⟩ := H
        go_wp2_with fail
        go_at_call 47
        refine (Go.Proofs.YtpcdaoeijlifmaaDoor.GsL1CurPick.C (c0_c0l0) (3) (g0) (Ac0) (cc0) (bc0) _   Kl0_0 qt_12).mono ?_
        rintro e_t_12 wt_12 ⟨rfl, kt_12, gt_12⟩
        have Kt_12 := Lib.hid kt_12
        have Gt_12 : Hid (wr0.grownBy wt_12 (Value.slice (some ⟨g0, 0, none⟩) 1 1).ownBlock) := Lib.hid gt_12
        clear kt_12 gt_12
        have HBwt_12 := Lib.hid (Aid.grown_tr HBwr0.out Gt_12.out)
        replace Oout_3l0 := Lib.hid (own_other Oout_3l0.out Gt_12.out (Apart.symm Dout_3l0_c0.out))
        clear Kl0_0 Gt_12
        replace H := let_hid H
        obtain ⟨t_13, ht_13, H⟩ := H
        replace H := bind2_hid H
        obtain ⟨t_15, t_15_tp, qt_15, H⟩ := H
        go_wp2_with fail
        go_at_call 47
        refine (Go.Proofs.YtpcdaoeijlifmaaDoor.GsL1CurPick.C (t_12_tp) (150) (g0) (Ac0) (cc0) (bc0) _   Kt_12 qt_15).mono ?_
        rintro e_t_15 wt_15 ⟨rfl, kt_15, gt_15⟩
        have Kt_15 := Lib.hid kt_15
        have Gt_15 : Hid (wt_12.grownBy wt_15 (Value.slice (some ⟨g0, 0, none⟩) 1 1).ownBlock) := Lib.hid gt_15
        clear kt_15 gt_15
        have HBwt_15 := Lib.hid (Aid.grown_tr HBwt_12.out Gt_15.out)
        replace Oout_3l0 := Lib.hid (own_other Oout_3l0.out Gt_15.out (Apart.symm Dout_3l0_c0.out))
        clear Kt_12 Gt_15
        replace H := let_hid H
        obtain ⟨t_16, ht_16, H⟩ := H
        replace H := let_hid H
        obtain ⟨t_17, ht_17, H⟩ := H
        replace H := bind2_hid H
        obtain ⟨t_22, t_22_tp, qt_22, H⟩ := H
        obtain ⟨t_22_id, t_22_wide, t_22_high, t_22_line⟩ := t_22
        replace H := unComb_hid H
        go_wp2_with fail
        go_at_call 67
        refine (Go.Proofs.YtpcdaoeijlifmaaDoor.GsL1CurComb5.C (t_15_tp) (t_17) (g0) (Ac0) (cc0) (bc0) _   Kt_15 qt_22).mono ?_
        rintro e_t_22 wt_22 ⟨rfl, kt_22, gt_22⟩
        unfold Go.Proofs.YtpcdaoeijlifmaaDoor.PComb.Comb.val
        have Kt_22 := Lib.hid kt_22
        have Gt_22 : Hid (wt_15.grownBy wt_22 (Value.slice (some ⟨g0, 0, none⟩) 1 1).ownBlock) := Lib.hid gt_22
        clear kt_22 gt_22
        have HBwt_22 := Lib.hid (Aid.grown_tr HBwt_15.out Gt_22.out)
        replace Oout_3l0 := Lib.hid (own_other Oout_3l0.out Gt_22.out (Apart.symm Dout_3l0_c0.out))
        clear Kt_15 Gt_22
        obtain ⟨w_t_23, hw_t_23⟩ : ∃ x, wt_22.alloc (.cells #[.int .i64 t_22_id, .int .i64 t_22_wide, .int .i64 t_22_high, .bool t_22_line] 43) = x := ⟨_, rfl⟩
        have bw_t_23 : Below wt_22.heap.size wt_22 w_t_23 := by rw [← hw_t_23]; exact (Below.refl _ _).alloc (Nat.le_refl _) _
        have HBw_t_23 := Lib.hid (grown_below HBwt_22.out bw_t_23)
        replace Oout_3l0 := Lib.hid (own_below Oout_3l0.out bw_t_23)
        replace Kt_22 := Lib.hid (Go.Proofs.YtpcdaoeijlifmaaDoor.GoC.cur_below Kt_22.out bw_t_23)
        clear bw_t_23
        replace H := guard_hid H
        obtain ⟨hlt_24, H⟩ := H
        replace H := let_hid H
        obtain ⟨t_24, ht_24, H⟩ := H
        have hht_24 := Lib.hid ht_24
        clear ht_24
        have hst_24 := HBw_t_23.out.size
        go_wp2_with (at_builtin; refine wpList_append_own_at _ rfl _ _ 35 rfl w.heap.size 43 i0_43 (.agg #[.int .i64 0, .int .i64 0, .int .i64 0, .bool false]) 4 32 Tryd.underlying35 hi_43 hz0_43 hz1_43 hz2_43 rfl (by decide) _ _ _ rfl Oout_3l0.out ⟨wt_22.heap.size, 0, none⟩ 1 1 [.int .i64 t_22_id, .int .i64 t_22_wide, .int .i64 t_22_high, .bool t_22_line] rfl rfl (news_new hw_t_23) (one_cells rfl) (by unfold maxLen; omega) (by omega) hst_24 ?_; intro vt_24 wt_24 ot_24 gt_24 zt_24 yt_24; clear zt_24; obtain ⟨qt_24, ct_24, rfl, pt_24⟩ := own_push hht_24.out (Go.Proofs.YtpcdaoeijlifmaaDoor.PComb.flat_snoc _ _) rfl ot_24; have Pt_24 := Lib.hid pt_24; have Yt_24 := Lib.hid yt_24; have Gt_24 := Lib.hid gt_24; clear ot_24 gt_24 pt_24 yt_24; refine stop_in ?_)
        refine stop_out ?_
        have HBwt_24 := Lib.hid (Go.Proofs.YtpcdaoeijlifmaaDoor.GoC.grown_new HBw_t_23.out Gt_24.out (Go.Proofs.YtpcdaoeijlifmaaDoor.GoC.own_ge Oout_3l0.out))
        clear hst_24
        have Dt_24_c0 : Hid (Apart (some ⟨qt_24, 0, none⟩) _) := Lib.hid (apart_app Dout_3l0_c0.out (fun a_ ha_ => by cases ha_; exact (Go.Proofs.YtpcdaoeijlifmaaDoor.GoC.cur_lt Kt_22.out).2) Yt_24.out)
        replace Kt_22 := Lib.hid (Go.Proofs.YtpcdaoeijlifmaaDoor.GoC.cur_other Kt_22.out Gt_24.out Dout_3l0_c0.out (fun a_ e_ => Nat.le_trans L0 (Go.Proofs.YtpcdaoeijlifmaaDoor.GoC.own_ge Oout_3l0.out a_ e_)))
        clear Oout_3l0 Yt_24 Gt_24
        replace H := let_hid H
        obtain ⟨t_27, ht_27, H⟩ := H
        replace H := app_hid H
        go_wp2_with fail
        go_roundg m0
        case measure => omega
        case rel => exact ⟨_, _, _, _, _, _, rfl, rfl, rfl, H, HBwt_24, Pt_24, Lib.hid Dt_24_c0.out, Kt_22⟩
end Go.Proofs.YtpcdaoeijlifmaaDoor.GsL1CurCombs5

/- (*loop.example/g01062/spec.l1Cur).ask5 as a plain function, and the contract of the program's: where the plain one has an answer, the program has it. Conditions: slices read as lists. -/
namespace Go.Proofs.YtpcdaoeijlifmaaDoor.GsL1CurAsk5
set_option linter.unusedVariables false
set_option linter.unusedSimpArgs false
open Go.RowKit
open Go.Proofs.YtpcdaoeijlifmaaDoor.Rowed Go.Proofs.YtpcdaoeijlifmaaDoor.Turn Go.Proofs.YtpcdaoeijlifmaaDoor.Aid Go.Proofs.YtpcdaoeijlifmaaDoor.GoP Go.Proofs.YtpcdaoeijlifmaaDoor.GoM

def P (c : Go.Proofs.YtpcdaoeijlifmaaDoor.GoC.Tape) : Option (Int × Go.Proofs.YtpcdaoeijlifmaaDoor.GoC.Tape) :=
  bind2 (Go.Proofs.YtpcdaoeijlifmaaDoor.GsL1CurOne.P c 8) fun (t_2 : Bool) (t_2_tp : Go.Proofs.YtpcdaoeijlifmaaDoor.GoC.Tape) =>
  iteK t_2
  (letK ([0, 0, 499, 2001]) fun (t_4 : (List Int)) =>
  bind2 (Go.Proofs.YtpcdaoeijlifmaaDoor.GsL1CurAmong.P t_2_tp t_4) fun (t_5 : Int) (t_5_tp : Go.Proofs.YtpcdaoeijlifmaaDoor.GoC.Tape) =>
  some (t_5, t_5_tp))
  (bind2 (Go.Proofs.YtpcdaoeijlifmaaDoor.GsL1CurGauge5.P t_2_tp) fun (t_8 : Int) (t_8_tp : Go.Proofs.YtpcdaoeijlifmaaDoor.GoC.Tape) =>
  letK ([0, 0, 10, 25, (-25)]) fun (t_10 : (List Int)) =>
  bind2 (Go.Proofs.YtpcdaoeijlifmaaDoor.GsL1CurAmong.P t_8_tp t_10) fun (t_11 : Int) (t_11_tp : Go.Proofs.YtpcdaoeijlifmaaDoor.GoC.Tape) =>
  letK (IntKind.i64.wrap (t_8 + t_11)) fun (t_12 : Int) =>
  some (t_12, t_11_tp))

set_option maxRecDepth 100000 in
set_option maxHeartbeats 2000000 in
theorem C (c : Go.Proofs.YtpcdaoeijlifmaaDoor.GoC.Tape)   (g0 : Nat) (Ac0 : Option Addr) (cc0 : Nat) (bc0 : Nat) (w : World)   (K0 : Hid (Go.Proofs.YtpcdaoeijlifmaaDoor.GoC.CurIs w bc0 g0 Ac0 cc0 c)) {r : Int} {t_ : Go.Proofs.YtpcdaoeijlifmaaDoor.GoC.Tape} (H : Hid (P c = some (r, t_))) :
    Calls Tryd.prog 49 #[.pointer (some ⟨g0, 0, none⟩)] w (fun e w' => e = .returned (.int .i64 r) ∧ Go.Proofs.YtpcdaoeijlifmaaDoor.GoC.CurIs w' bc0 g0 Ac0 cc0 t_ ∧ w.grownBy w' (Value.slice (some ⟨g0, 0, none⟩) 1 1).ownBlock) := by
  have HB := Lib.hid (Aid.grown_refl w (Value.slice (some ⟨g0, 0, none⟩) 1 1).ownBlock)
  unfold P at H
  have L0 : bc0 ≤ w.heap.size := by have := Go.Proofs.YtpcdaoeijlifmaaDoor.GoC.cur_lt K0.out; omega
  go_enter Tryd.func49, Tryd.ntmps49
  replace H := bind2_hid H
  obtain ⟨t_2, t_2_tp, qt_2, H⟩ := H
  go_wp2_with fail
  go_at_call 48
  refine (Go.Proofs.YtpcdaoeijlifmaaDoor.GsL1CurOne.C (c) (8) (g0) (Ac0) (cc0) (bc0) _   K0 qt_2).mono ?_
  rintro e_t_2 wt_2 ⟨rfl, kt_2, gt_2⟩
  have Kt_2 := Lib.hid kt_2
  have Gt_2 : Hid (w.grownBy wt_2 (Value.slice (some ⟨g0, 0, none⟩) 1 1).ownBlock) := Lib.hid gt_2
  clear kt_2 gt_2
  have HBwt_2 := Lib.hid (Aid.grown_tr HB.out Gt_2.out)
  clear K0 Gt_2
  cases t_2 with
  | false =>
    replace H := ite_f H
    replace H := bind2_hid H
    obtain ⟨t_8, t_8_tp, qt_8, H⟩ := H
    go_wp2_with fail
    go_at_call 90
    refine (Go.Proofs.YtpcdaoeijlifmaaDoor.GsL1CurGauge5.C (t_2_tp) (g0) (Ac0) (cc0) (bc0) _   Kt_2 qt_8).mono ?_
    rintro e_t_8 wt_8 ⟨rfl, kt_8, gt_8⟩
    have Kt_8 := Lib.hid kt_8
    have Gt_8 : Hid (wt_2.grownBy wt_8 (Value.slice (some ⟨g0, 0, none⟩) 1 1).ownBlock) := Lib.hid gt_8
    clear kt_8 gt_8
    have HBwt_8 := Lib.hid (Aid.grown_tr HBwt_2.out Gt_8.out)
    clear Kt_2 Gt_8
    replace H := let_hid H
    obtain ⟨t_10, ht_10, H⟩ := H
    obtain ⟨w_t_10, hw_t_10⟩ : ∃ x, wt_8.alloc (.cells #[.int .i64 0, .int .i64 0, .int .i64 10, .int .i64 25, .int .i64 (-25)] 3) = x := ⟨_, rfl⟩
    have bw_t_10 : Below wt_8.heap.size wt_8 w_t_10 := by rw [← hw_t_10]; exact (Below.refl _ _).alloc (Nat.le_refl _) _
    have hs_t_10 := HBwt_8.out.size
    have nt_10 : t_10.length = 5 := by rw [← ht_10]; rfl
    have Ot_10 : Hid (w_t_10.ownsRow w.heap.size 3 1 (.slice (some ⟨wt_8.heap.size, 0, none⟩) 5 5) 5 (Go.Proofs.YtpcdaoeijlifmaaDoor.HelpInt.iv t_10)) := by
      rw [← hw_t_10, ← ht_10]
      have e_ : ([.int .i64 0, .int .i64 0, .int .i64 10, .int .i64 25, .int .i64 (-25)] : List Value) = (Go.Proofs.YtpcdaoeijlifmaaDoor.HelpInt.iv ([0, 0, 10, 25, (-25)] : List Int)) := rfl
      exact Lib.hid (own_laid (n := 5) hs_t_10 e_ rfl (by unfold maxLen; omega))
    clear hs_t_10
    have hht_10 := Lib.hid ht_10
    clear ht_10
    replace nt_10 := Lib.hid nt_10
    have Dt_10_c0 := Lib.hid (Go.Proofs.YtpcdaoeijlifmaaDoor.GoC.apart_cur Kt_8.out)
    have HBw_t_10 := Lib.hid (grown_below HBwt_8.out bw_t_10)
    replace Kt_8 := Lib.hid (Go.Proofs.YtpcdaoeijlifmaaDoor.GoC.cur_below Kt_8.out bw_t_10)
    clear bw_t_10
    replace H := bind2_hid H
    obtain ⟨t_11, t_11_tp, qt_11, H⟩ := H
    go_wp2_with fail
    have hc_ := nt_10.out
    have hv_ : (Value.slice (some ⟨wt_8.heap.size, 0, none⟩) 5 5 : Value) = Value.slice (some ⟨wt_8.heap.size, 0, none⟩) t_10.length 5 := by rw [hc_]
    try rw [hv_]
    replace Ot_10 := Lib.hid (own_len hc_ Ot_10.out)
    clear hc_ hv_
    go_wp2_with fail
    go_at_call 46
    refine (Go.Proofs.YtpcdaoeijlifmaaDoor.GsL1CurAmong.C (t_8_tp) (t_10) (some ⟨wt_8.heap.size, 0, none⟩) 5 (g0) (Ac0) (cc0) (bc0) _   (Lib.hid (own_cells Ot_10.out)) (Lib.hid (own_max Ot_10.out)) Kt_8 (Lib.hid (fun _ => Dt_10_c0.out)) qt_11).mono ?_
    rintro e_t_11 wt_11 ⟨rfl, kt_11, gt_11⟩
    have Kt_11 := Lib.hid kt_11
    have Gt_11 : Hid (w_t_10.grownBy wt_11 (Value.slice (some ⟨g0, 0, none⟩) 1 1).ownBlock) := Lib.hid gt_11
    clear kt_11 gt_11
    have HBwt_11 := Lib.hid (Aid.grown_tr HBw_t_10.out Gt_11.out)
    replace Ot_10 := Lib.hid (own_other Ot_10.out Gt_11.out (Apart.symm Dt_10_c0.out))
    clear Kt_8 Gt_11
    replace H := let_hid H
    obtain ⟨t_12, ht_12, H⟩ := H
    cases ret_hid H
    go_wp2_with fail
    go_ret
    exact ⟨rfl, Kt_11.out, HBwt_11.out⟩
  | true =>
    replace H := ite_t H
    replace H := let_hid H
    obtain ⟨t_4, ht_4, H⟩ := H
    obtain ⟨w_t_4, hw_t_4⟩ : ∃ x, wt_2.alloc (.cells #[.int .i64 0, .int .i64 0, .int .i64 499, .int .i64 2001] 3) = x := ⟨_, rfl⟩
    have bw_t_4 : Below wt_2.heap.size wt_2 w_t_4 := by rw [← hw_t_4]; exact (Below.refl _ _).alloc (Nat.le_refl _) _
    have hs_t_4 := HBwt_2.out.size
    have nt_4 : t_4.length = 4 := by rw [← ht_4]; rfl
    have Ot_4 : Hid (w_t_4.ownsRow w.heap.size 3 1 (.slice (some ⟨wt_2.heap.size, 0, none⟩) 4 4) 4 (Go.Proofs.YtpcdaoeijlifmaaDoor.HelpInt.iv t_4)) := by
      rw [← hw_t_4, ← ht_4]
      have e_ : ([.int .i64 0, .int .i64 0, .int .i64 499, .int .i64 2001] : List Value) = (Go.Proofs.YtpcdaoeijlifmaaDoor.HelpInt.iv ([0, 0, 499, 2001] : List Int)) := rfl
      exact Lib.hid (own_laid (n := 4) hs_t_4 e_ rfl (by unfold maxLen; omega))
    clear hs_t_4
    have hht_4 := Lib.hid ht_4
    clear ht_4
    replace nt_4 := Lib.hid nt_4
    have Dt_4_c0 := Lib.hid (Go.Proofs.YtpcdaoeijlifmaaDoor.GoC.apart_cur Kt_2.out)
    have HBw_t_4 := Lib.hid (grown_below HBwt_2.out bw_t_4)
    replace Kt_2 := Lib.hid (Go.Proofs.YtpcdaoeijlifmaaDoor.GoC.cur_below Kt_2.out bw_t_4)
    clear bw_t_4
    replace H := bind2_hid H
    obtain ⟨t_5, t_5_tp, qt_5, H⟩ := H
    go_wp2_with fail
    have hc_ := nt_4.out
    have hv_ : (Value.slice (some ⟨wt_2.heap.size, 0, none⟩) 4 4 : Value) = Value.slice (some ⟨wt_2.heap.size, 0, none⟩) t_4.length 4 := by rw [hc_]
    try rw [hv_]
    replace Ot_4 := Lib.hid (own_len hc_ Ot_4.out)
    clear hc_ hv_
    go_wp2_with fail
    go_at_call 46
    refine (Go.Proofs.YtpcdaoeijlifmaaDoor.GsL1CurAmong.C (t_2_tp) (t_4) (some ⟨wt_2.heap.size, 0, none⟩) 4 (g0) (Ac0) (cc0) (bc0) _   (Lib.hid (own_cells Ot_4.out)) (Lib.hid (own_max Ot_4.out)) Kt_2 (Lib.hid (fun _ => Dt_4_c0.out)) qt_5).mono ?_
    rintro e_t_5 wt_5 ⟨rfl, kt_5, gt_5⟩
    have Kt_5 := Lib.hid kt_5
    have Gt_5 : Hid (w_t_4.grownBy wt_5 (Value.slice (some ⟨g0, 0, none⟩) 1 1).ownBlock) := Lib.hid gt_5
    clear kt_5 gt_5
    have HBwt_5 := Lib.hid (Aid.grown_tr HBw_t_4.out Gt_5.out)
    replace Ot_4 := Lib.hid (own_other Ot_4.out Gt_5.out (Apart.symm Dt_4_c0.out))
    clear Kt_2 Gt_5
    cases ret_hid H
    go_wp2_with fail
    go_ret
    exact ⟨rfl, Kt_5.out, HBwt_5.out⟩
end Go.Proofs.YtpcdaoeijlifmaaDoor.GsL1CurAsk5

/- loop.example/g01062/spec.DrawMatchCombs as a plain function, and the contract of the program's: where the plain one has an answer, the program has it. Conditions: slices read as lists. -/
namespace Go.Proofs.YtpcdaoeijlifmaaDoor.GsDrawMatchCombs
set_option linter.unusedVariables false
set_option linter.unusedSimpArgs false
open Go.RowKit
open Go.Proofs.YtpcdaoeijlifmaaDoor.Rowed Go.Proofs.YtpcdaoeijlifmaaDoor.Turn Go.Proofs.YtpcdaoeijlifmaaDoor.Aid Go.Proofs.YtpcdaoeijlifmaaDoor.GoP Go.Proofs.YtpcdaoeijlifmaaDoor.GoM

def P (fuel : Nat) (tapes : List Int → Go.Proofs.YtpcdaoeijlifmaaDoor.GoC.Tape) (code : (List Int)) : Option ((List Go.Proofs.YtpcdaoeijlifmaaDoor.PComb.Comb) × Int × Int × Int) :=
  letK (tapes code) fun (t_6 : Go.Proofs.YtpcdaoeijlifmaaDoor.GoC.Tape) =>
  bind2 (Go.Proofs.YtpcdaoeijlifmaaDoor.GsL1CurCombs5.P fuel t_6) fun (t_9 : (List Go.Proofs.YtpcdaoeijlifmaaDoor.PComb.Comb)) (t_9_tp : Go.Proofs.YtpcdaoeijlifmaaDoor.GoC.Tape) =>
  letK ([0, 10, 25, 100, (-1), 101]) fun (t_12 : (List Int)) =>
  bind2 (Go.Proofs.YtpcdaoeijlifmaaDoor.GsL1CurPick.P t_9_tp 24) fun (t_14 : Int) (t_14_tp : Go.Proofs.YtpcdaoeijlifmaaDoor.GoC.Tape) =>
  letK (IntKind.i64.wrap (Int.tdiv t_14 11)) fun (t_15 : Int) =>
  letK (IntKind.i64.wrap (4 + t_15)) fun (t_16 : Int) =>
  guardK ((0 : Int) ≤ t_16 ∧ (t_16 : Int) ≤ (t_12.length : Int)) <|
  letK (List.take (Int.toNat t_16) t_12) fun (t_17 : (List Int)) =>
  bind2 (Go.Proofs.YtpcdaoeijlifmaaDoor.GsL1CurAmong.P t_14_tp t_17) fun (t_18 : Int) (t_18_tp : Go.Proofs.YtpcdaoeijlifmaaDoor.GoC.Tape) =>
  letK (decide (0 < (t_9.length : Int))) fun (t_22 : Bool) =>
  joinK (fun (st_26 : Bool × Go.Proofs.YtpcdaoeijlifmaaDoor.GoC.Tape) => unp2 st_26 fun t_26 t_26_tp =>
  iteK t_26
  (bind2 (Go.Proofs.YtpcdaoeijlifmaaDoor.GsL1CurPick.P t_26_tp (t_9.length : Int)) fun (t_31 : Int) (t_31_tp : Go.Proofs.YtpcdaoeijlifmaaDoor.GoC.Tape) =>
  Option.bind (idx t_9 t_31) fun (yt_32 : Go.Proofs.YtpcdaoeijlifmaaDoor.PComb.Comb) =>
  unComb yt_32 fun (t_32_id : Int) (t_32_wide : Int) (t_32_high : Int) (t_32_line : Bool) =>
  bind2 (Go.Proofs.YtpcdaoeijlifmaaDoor.GsL1CurOne.P t_31_tp 2) fun (t_37 : Bool) (t_37_tp : Go.Proofs.YtpcdaoeijlifmaaDoor.GoC.Tape) =>
  iteK t_37
  (some (t_9, t_32_high, t_32_wide, t_18))
  (some (t_9, t_32_wide, t_32_high, t_18)))
  (bind2 (Go.Proofs.YtpcdaoeijlifmaaDoor.GsL1CurAsk5.P t_26_tp) fun (t_60 : Int) (t_60_tp : Go.Proofs.YtpcdaoeijlifmaaDoor.GoC.Tape) =>
  bind2 (Go.Proofs.YtpcdaoeijlifmaaDoor.GsL1CurAsk5.P t_60_tp) fun (t_62 : Int) (t_62_tp : Go.Proofs.YtpcdaoeijlifmaaDoor.GoC.Tape) =>
  some (t_9, t_60, t_62, t_18))) fun jt_26 => iteK t_22 (bind2 (Go.Proofs.YtpcdaoeijlifmaaDoor.GsL1CurOne.P t_18_tp 2) fun (t_25 : Bool) (t_25_tp : Go.Proofs.YtpcdaoeijlifmaaDoor.GoC.Tape) =>
  appK jt_26 (t_25, t_25_tp)) (appK jt_26 (false, t_18_tp))

set_option maxRecDepth 100000 in
set_option maxHeartbeats 2000000 in
theorem C (fuel : Nat) (tapes : List Int → Go.Proofs.YtpcdaoeijlifmaaDoor.GoC.Tape) (code : (List Int)) (A0 : Option Addr) (c0 : Nat)  (w : World) (HE : Hid (Go.Proofs.YtpcdaoeijlifmaaDoor.GoC.Tells tapes)) (M0 : Hid (Cells w 1 A0 code.length (Go.Proofs.YtpcdaoeijlifmaaDoor.GoC.u8s code))) (N0 : Hid (code.length ≤ 9223372036854775807)) (V0 : Hid (∀ z ∈ code, 0 ≤ z ∧ z ≤ 255))  {r0 : (List Go.Proofs.YtpcdaoeijlifmaaDoor.PComb.Comb)} {r1 : Int} {r2 : Int} {r3 : Int} (H : Hid (P fuel tapes code = some (r0, r1, r2, r3))) :
    Calls Tryd.prog 13 #[.slice A0 code.length c0] w (fun e w' => ∃ A_r0 c_r0, e = .returned (.tuple #[.slice A_r0 r0.length c_r0, .int .i64 r1, .int .i64 r2, .int .i64 r3]) ∧ w'.ownsRow w.heap.size 43 4 (.slice A_r0 r0.length c_r0) r0.length (Go.Proofs.YtpcdaoeijlifmaaDoor.PComb.flat r0) ∧ Below w.heap.size w w') := by
  have HB := Lib.hid (Below.refl w.heap.size w)
  unfold P at H
  have N0o := N0.out
  obtain ⟨i0_3, hi_3, hz0_3, hz1_3, hz2_3⟩ := Aid.info_parts (P := Tryd.prog) (T := 3) (z := .int .i64 0) (s := 1) (b := 8) (by kernel_rfl)
  go_enter Tryd.func13, Tryd.ntmps13
  replace H := let_hid H
  obtain ⟨t_6, ht_6, H⟩ := H
  obtain ⟨w_t_6, hw_t_6⟩ : ∃ x, w.alloc (.cells #[.slice A0 code.length c0, .int .i64 0, .int .u64 0] 78) = x := ⟨_, rfl⟩
  have bw_t_6 : Below w.heap.size w w_t_6 := by rw [← hw_t_6]; exact (Below.refl _ _).alloc (Nat.le_refl _) _
  have Kt_6 : Hid (Go.Proofs.YtpcdaoeijlifmaaDoor.GoC.CurIs w_t_6 w.heap.size w.heap.size A0 c0 t_6) := Lib.hid (by rw [← hw_t_6, ← ht_6]; exact Go.Proofs.YtpcdaoeijlifmaaDoor.GoC.cur_new HB.out.size (Cells.below M0.out HB.out) (fun a_ ha_ h0_ => by subst ha_; exact Go.Proofs.YtpcdaoeijlifmaaDoor.GoC.cells_lt M0.out (by unfold Go.Proofs.YtpcdaoeijlifmaaDoor.GoC.u8s; rw [List.length_map]; exact h0_)) (HE.out.2.2 code V0.out N0.out))
  have hht_6 := Lib.hid ht_6
  clear ht_6
  have HBw_t_6 := Lib.hid (Below.step HB.out bw_t_6)
  clear bw_t_6
  replace H := bind2_hid H
  obtain ⟨t_9, t_9_tp, qt_9, H⟩ := H
  go_wp2_with fail
  go_at_call 45
  refine (Go.Proofs.YtpcdaoeijlifmaaDoor.GsL1CurCombs5.C fuel (t_6) (w.heap.size) (A0) (c0) (w.heap.size) _   Kt_6 qt_9).mono ?_
  rintro e_t_9 wt_9 ⟨At_9, ct_9, rfl, ot_9, kt_9, gt_9⟩
  have Dt_9_t_6 := Lib.hid (Go.Proofs.YtpcdaoeijlifmaaDoor.GoC.apart_callcur ot_9 Kt_6.out)
  have Ot_9 := Lib.hid (own_lower ot_9 HBw_t_6.out.size)
  clear ot_9
  have Kt_9 := Lib.hid kt_9
  have Gt_9 : Hid (w_t_6.grownBy wt_9 (Value.slice (some ⟨w.heap.size, 0, none⟩) 1 1).ownBlock) := Lib.hid gt_9
  clear kt_9 gt_9
  have HBwt_9 := Lib.hid (Go.Proofs.YtpcdaoeijlifmaaDoor.GoC.below_cur HBw_t_6.out Gt_9.out HBw_t_6.out.size (Go.Proofs.YtpcdaoeijlifmaaDoor.GoC.cur_lt Kt_6.out).1)
  clear Kt_6 Gt_9
  replace H := let_hid H
  obtain ⟨t_12, ht_12, H⟩ := H
  obtain ⟨w_t_12, hw_t_12⟩ : ∃ x, wt_9.alloc (.cells #[.int .i64 0, .int .i64 10, .int .i64 25, .int .i64 100, .int .i64 (-1), .int .i64 101] 3) = x := ⟨_, rfl⟩
  have bw_t_12 : Below wt_9.heap.size wt_9 w_t_12 := by rw [← hw_t_12]; exact (Below.refl _ _).alloc (Nat.le_refl _) _
  have hs_t_12 := HBwt_9.out.size
  have nt_12 : t_12.length = 6 := by rw [← ht_12]; rfl
  have Ot_12 : Hid (w_t_12.ownsRow w.heap.size 3 1 (.slice (some ⟨wt_9.heap.size, 0, none⟩) 6 6) 6 (Go.Proofs.YtpcdaoeijlifmaaDoor.HelpInt.iv t_12)) := by
    rw [← hw_t_12, ← ht_12]
    have e_ : ([.int .i64 0, .int .i64 10, .int .i64 25, .int .i64 100, .int .i64 (-1), .int .i64 101] : List Value) = (Go.Proofs.YtpcdaoeijlifmaaDoor.HelpInt.iv ([0, 10, 25, 100, (-1), 101] : List Int)) := rfl
    exact Lib.hid (own_laid (n := 6) hs_t_12 e_ rfl (by unfold maxLen; omega))
  clear hs_t_12
  have hht_12 := Lib.hid ht_12
  clear ht_12
  replace nt_12 := Lib.hid nt_12
  have Dt_12_t_9 := Lib.hid (apart_fresh Ot_9.out)
  have Dt_12_t_6 := Lib.hid (Go.Proofs.YtpcdaoeijlifmaaDoor.GoC.apart_cur Kt_9.out)
  have HBw_t_12 := Lib.hid (Below.step HBwt_9.out bw_t_12)
  replace Ot_9 := Lib.hid (own_below Ot_9.out bw_t_12)
  replace Kt_9 := Lib.hid (Go.Proofs.YtpcdaoeijlifmaaDoor.GoC.cur_below Kt_9.out bw_t_12)
  clear bw_t_12
  replace H := bind2_hid H
  obtain ⟨t_14, t_14_tp, qt_14, H⟩ := H
  go_wp2_with fail
  go_at_call 47
  refine (Go.Proofs.YtpcdaoeijlifmaaDoor.GsL1CurPick.C (t_9_tp) (24) (w.heap.size) (A0) (c0) (w.heap.size) _   Kt_9 qt_14).mono ?_
  rintro e_t_14 wt_14 ⟨rfl, kt_14, gt_14⟩
  have Kt_14 := Lib.hid kt_14
  have Gt_14 : Hid (w_t_12.grownBy wt_14 (Value.slice (some ⟨w.heap.size, 0, none⟩) 1 1).ownBlock) := Lib.hid gt_14
  clear kt_14 gt_14
  have HBwt_14 := Lib.hid (Go.Proofs.YtpcdaoeijlifmaaDoor.GoC.below_cur HBw_t_12.out Gt_14.out HBw_t_12.out.size (Go.Proofs.YtpcdaoeijlifmaaDoor.GoC.cur_lt Kt_9.out).1)
  replace Ot_9 := Lib.hid (own_other Ot_9.out Gt_14.out (Apart.symm Dt_9_t_6.out))
  replace Ot_12 := Lib.hid (own_other Ot_12.out Gt_14.out (Apart.symm Dt_12_t_6.out))
  clear Kt_9 Gt_14
  replace H := let_hid H
  obtain ⟨t_15, ht_15, H⟩ := H
  replace H := let_hid H
  obtain ⟨t_16, ht_16, H⟩ := H
  replace H := guard_hid H
  obtain ⟨hl_t_17, H⟩ := H
  replace H := let_hid H
  obtain ⟨t_17, ht_17, H⟩ := H
  have dt_17 : ((Go.Proofs.YtpcdaoeijlifmaaDoor.HelpInt.iv t_12)).take (Int.toNat t_16 * 1) = (Go.Proofs.YtpcdaoeijlifmaaDoor.HelpInt.iv t_17) := by
    rw [← ht_17]
    simp [Go.Proofs.YtpcdaoeijlifmaaDoor.HelpInt.iv, List.map_take]
  have nt_17 : Int.toNat t_16 = t_17.length := by rw [← ht_17, List.length_take]; have h_ := nt_12.out; omega
  replace hl_t_17 : (0 : Int) ≤ t_16 ∧ (t_16 : Int) ≤ ((6 : Nat) : Int) := by have h_ := nt_12.out; omega
  obtain ⟨rt_17, Ot_17⟩ := slice_head (P := Tryd.prog) (t := 38) (e := 3) (k := .i64) (by kernel_rfl) (by kernel_rfl) hi_3 hz1_3 Ot_12.out hl_t_17 nt_17 dt_17
  replace Ot_17 := Lib.hid Ot_17
  clear dt_17 nt_17 hl_t_17
  have hht_17 := Lib.hid ht_17
  clear ht_17
  replace H := bind2_hid H
  obtain ⟨t_18, t_18_tp, qt_18, H⟩ := H
  go_wp2_with fail
  go_at_call 46
  refine (Go.Proofs.YtpcdaoeijlifmaaDoor.GsL1CurAmong.C (t_14_tp) (t_17) (some ⟨wt_9.heap.size, 0, none⟩) 6 (w.heap.size) (A0) (c0) (w.heap.size) _   (Lib.hid (own_cells Ot_17.out)) (Lib.hid (own_max Ot_17.out)) Kt_14 (Lib.hid (fun _ => Dt_12_t_6.out)) qt_18).mono ?_
  rintro e_t_18 wt_18 ⟨rfl, kt_18, gt_18⟩
  have Kt_18 := Lib.hid kt_18
  have Gt_18 : Hid (wt_14.grownBy wt_18 (Value.slice (some ⟨w.heap.size, 0, none⟩) 1 1).ownBlock) := Lib.hid gt_18
  clear kt_18 gt_18
  have HBwt_18 := Lib.hid (Go.Proofs.YtpcdaoeijlifmaaDoor.GoC.below_cur HBwt_14.out Gt_18.out HBwt_14.out.size (Go.Proofs.YtpcdaoeijlifmaaDoor.GoC.cur_lt Kt_14.out).1)
  replace Ot_9 := Lib.hid (own_other Ot_9.out Gt_18.out (Apart.symm Dt_9_t_6.out))
  replace Ot_17 := Lib.hid (own_other Ot_17.out Gt_18.out (Apart.symm Dt_12_t_6.out))
  clear Kt_14 Gt_18
  replace H := let_hid H
  obtain ⟨t_22, ht_22, H⟩ := H
  replace H := join_hid H
  cases t_22 with
  | false =>
    have nht_22 : ¬ (0 < t_9.length) := by have := of_decide_eq_false ht_22; omega
    replace H := ite_f H
    replace H := app_hid H
    replace H := unp2_hid H
    replace H := ite_f H
    replace H := bind2_hid H
    obtain ⟨t_60, t_60_tp, qt_60, H⟩ := H
    go_wp2_with fail
    go_at_call 49
    refine (Go.Proofs.YtpcdaoeijlifmaaDoor.GsL1CurAsk5.C (t_18_tp) (w.heap.size) (A0) (c0) (w.heap.size) _   Kt_18 qt_60).mono ?_
    rintro e_t_60 wt_60 ⟨rfl, kt_60, gt_60⟩
    have Kt_60 := Lib.hid kt_60
    have Gt_60 : Hid (wt_18.grownBy wt_60 (Value.slice (some ⟨w.heap.size, 0, none⟩) 1 1).ownBlock) := Lib.hid gt_60
    clear kt_60 gt_60
    have HBwt_60 := Lib.hid (Go.Proofs.YtpcdaoeijlifmaaDoor.GoC.below_cur HBwt_18.out Gt_60.out HBwt_18.out.size (Go.Proofs.YtpcdaoeijlifmaaDoor.GoC.cur_lt Kt_18.out).1)
    replace Ot_9 := Lib.hid (own_other Ot_9.out Gt_60.out (Apart.symm Dt_9_t_6.out))
    replace Ot_17 := Lib.hid (own_other Ot_17.out Gt_60.out (Apart.symm Dt_12_t_6.out))
    clear Kt_18 Gt_60
    replace H := bind2_hid H
    obtain ⟨t_62, t_62_tp, qt_62, H⟩ := H
    go_wp2_with fail
    go_at_call 49
    refine (Go.Proofs.YtpcdaoeijlifmaaDoor.GsL1CurAsk5.C (t_60_tp) (w.heap.size) (A0) (c0) (w.heap.size) _   Kt_60 qt_62).mono ?_
    rintro e_t_62 wt_62 ⟨rfl, kt_62, gt_62⟩
    have Kt_62 := Lib.hid kt_62
    have Gt_62 : Hid (wt_60.grownBy wt_62 (Value.slice (some ⟨w.heap.size, 0, none⟩) 1 1).ownBlock) := Lib.hid gt_62
    clear kt_62 gt_62
    have HBwt_62 := Lib.hid (Go.Proofs.YtpcdaoeijlifmaaDoor.GoC.below_cur HBwt_60.out Gt_62.out HBwt_60.out.size (Go.Proofs.YtpcdaoeijlifmaaDoor.GoC.cur_lt Kt_60.out).1)
    replace Ot_9 := Lib.hid (own_other Ot_9.out Gt_62.out (Apart.symm Dt_9_t_6.out))
    replace Ot_17 := Lib.hid (own_other Ot_17.out Gt_62.out (Apart.symm Dt_12_t_6.out))
    clear Kt_60 Gt_62
    cases ret_hid H
    go_wp2_with fail
    (try simp only [Exit.inBlock, Exit.then]); refine bodyPost_ret (results_tmp4 rfl _ _ _) rfl ?_
    exact ⟨At_9, ct_9, rfl, Ot_9.out, HBwt_62.out⟩
  | true =>
    have nht_22 : 0 < t_9.length := by have := of_decide_eq_true ht_22; omega
    replace H := ite_t H
    replace H := bind2_hid H
    obtain ⟨t_25, t_25_tp, qt_25, H⟩ := H
    go_wp2_with fail
    go_at_call 48
    refine (Go.Proofs.YtpcdaoeijlifmaaDoor.GsL1CurOne.C (t_18_tp) (2) (w.heap.size) (A0) (c0) (w.heap.size) _   Kt_18 qt_25).mono ?_
    rintro e_t_25 wt_25 ⟨rfl, kt_25, gt_25⟩
    have Kt_25 := Lib.hid kt_25
    have Gt_25 : Hid (wt_18.grownBy wt_25 (Value.slice (some ⟨w.heap.size, 0, none⟩) 1 1).ownBlock) := Lib.hid gt_25
    clear kt_25 gt_25
    have HBwt_25 := Lib.hid (Go.Proofs.YtpcdaoeijlifmaaDoor.GoC.below_cur HBwt_18.out Gt_25.out HBwt_18.out.size (Go.Proofs.YtpcdaoeijlifmaaDoor.GoC.cur_lt Kt_18.out).1)
    replace Ot_9 := Lib.hid (own_other Ot_9.out Gt_25.out (Apart.symm Dt_9_t_6.out))
    replace Ot_17 := Lib.hid (own_other Ot_17.out Gt_25.out (Apart.symm Dt_12_t_6.out))
    clear Kt_18 Gt_25
    replace H := app_hid H
    replace H := unp2_hid H
    cases t_25 with
    | false =>
      replace H := ite_f H
      replace H := bind2_hid H
      obtain ⟨t_60, t_60_tp, qt_60, H⟩ := H
      go_wp2_with fail
      go_at_call 49
      refine (Go.Proofs.YtpcdaoeijlifmaaDoor.GsL1CurAsk5.C (t_25_tp) (w.heap.size) (A0) (c0) (w.heap.size) _   Kt_25 qt_60).mono ?_
      rintro e_t_60 wt_60 ⟨rfl, kt_60, gt_60⟩
      have Kt_60 := Lib.hid kt_60
      have Gt_60 : Hid (wt_25.grownBy wt_60 (Value.slice (some ⟨w.heap.size, 0, none⟩) 1 1).ownBlock) := Lib.hid gt_60
      clear kt_60 gt_60
      have HBwt_60 := Lib.hid (Go.Proofs.YtpcdaoeijlifmaaDoor.GoC.below_cur HBwt_25.out Gt_60.out HBwt_25.out.size (Go.Proofs.YtpcdaoeijlifmaaDoor.GoC.cur_lt Kt_25.out).1)
      replace Ot_9 := Lib.hid (own_other Ot_9.out Gt_60.out (Apart.symm Dt_9_t_6.out))
      replace Ot_17 := Lib.hid (own_other Ot_17.out Gt_60.out (Apart.symm Dt_12_t_6.out))
      clear Kt_25 Gt_60
      replace H := bind2_hid H
      obtain ⟨t_62, t_62_tp, qt_62, H⟩ := H
      go_wp2_with fail
      go_at_call 49
      refine (Go.Proofs.YtpcdaoeijlifmaaDoor.GsL1CurAsk5.C (t_60_tp) (w.heap.size) (A0) (c0) (w.heap.size) _   Kt_60 qt_62).mono ?_
      rintro e_t_62 wt_62 ⟨rfl, kt_62, gt_62⟩
      have Kt_62 := Lib.hid kt_62
      have Gt_62 : Hid (wt_60.grownBy wt_62 (Value.slice (some ⟨w.heap.size, 0, none⟩) 1 1).ownBlock) := Lib.hid gt_62
      clear kt_62 gt_62
      have HBwt_62 := Lib.hid (Go.Proofs.YtpcdaoeijlifmaaDoor.GoC.below_cur HBwt_60.out Gt_62.out HBwt_60.out.size (Go.Proofs.YtpcdaoeijlifmaaDoor.GoC.cur_lt Kt_60.out).1)
      replace Ot_9 := Lib.hid (own_other Ot_9.out Gt_62.out (Apart.symm Dt_9_t_6.out))
      replace Ot_17 := Lib.hid (own_other Ot_17.out Gt_62.out (Apart.symm Dt_12_t_6.out))
      clear Kt_60 Gt_62
      cases ret_hid H
      go_wp2_with fail
      (try simp only [Exit.inBlock, Exit.then]); refine bodyPost_ret (results_tmp4 rfl _ _ _) rfl ?_
      exact ⟨At_9, ct_9, rfl, Ot_9.out, HBwt_62.out⟩
    | true =>
      replace H := ite_t H
      replace H := bind2_hid H
      obtain ⟨t_31, t_31_tp, qt_31, H⟩ := H
      go_wp2_with fail
      go_at_call 47
      refine (Go.Proofs.YtpcdaoeijlifmaaDoor.GsL1CurPick.C (t_25_tp) ((t_9.length : Int)) (w.heap.size) (A0) (c0) (w.heap.size) _   Kt_25 qt_31).mono ?_
      rintro e_t_31 wt_31 ⟨rfl, kt_31, gt_31⟩
      have Kt_31 := Lib.hid kt_31
      have Gt_31 : Hid (wt_25.grownBy wt_31 (Value.slice (some ⟨w.heap.size, 0, none⟩) 1 1).ownBlock) := Lib.hid gt_31
      clear kt_31 gt_31
      have HBwt_31 := Lib.hid (Go.Proofs.YtpcdaoeijlifmaaDoor.GoC.below_cur HBwt_25.out Gt_31.out HBwt_25.out.size (Go.Proofs.YtpcdaoeijlifmaaDoor.GoC.cur_lt Kt_25.out).1)
      replace Ot_9 := Lib.hid (own_other Ot_9.out Gt_31.out (Apart.symm Dt_9_t_6.out))
      replace Ot_17 := Lib.hid (own_other Ot_17.out Gt_31.out (Apart.symm Dt_12_t_6.out))
      clear Kt_25 Gt_31
      replace H := idx_hid H
      obtain ⟨nt_32, yt_32, et_32, lt_32, gt_32, H⟩ := H
      subst et_32
      obtain ⟨t_32_id, t_32_wide, t_32_high, t_32_line⟩ := yt_32
      replace H := unComb_hid H
      obtain ⟨qt_32, Qt_32⟩ := own_some Ot_9.out (by omega)
      subst Qt_32
      obtain ⟨ab_t_32, ao_t_32, zt_32, At_32, z_t_32, ct_32_0, ct_32_1, ct_32_2, ct_32_3⟩ := Go.Proofs.YtpcdaoeijlifmaaDoor.OComb.at_ (own_cells Ot_9.out) (k := nt_32) (by omega)
      obtain rfl := Option.some.inj (gt_32.out.symm.trans z_t_32)
      simp only [Option.some.injEq, Addr.mk.injEq] at At_32
      obtain ⟨rfl, rfl, _⟩ := At_32
      clear z_t_32
      simp only [Nat.zero_add] at ct_32_0 ct_32_1 ct_32_2 ct_32_3
      have b0t_32 : (0 : Int) ≤ (nt_32 : Int) := by omega
      have b1t_32 : (nt_32 : Int) < ((t_9.length : Nat) : Int) := by omega
      have b2t_32 : ((nt_32 : Int)).toNat = nt_32 := by omega
      obtain ⟨w_x_34, hw_x_34⟩ : ∃ x, wt_31.alloc (.cells #[.int .i64 t_32_id, .int .i64 t_32_wide, .int .i64 t_32_high, .bool t_32_line] 43) = x := ⟨_, rfl⟩
      have bw_x_34 : Below wt_31.heap.size wt_31 w_x_34 := by rw [← hw_x_34]; exact (Below.refl _ _).alloc (Nat.le_refl _) _
      have Dx_34_t_9 := Lib.hid (apart_fresh Ot_9.out)
      have Dx_34_t_17 := Lib.hid (apart_fresh Ot_17.out)
      have Dx_34_t_6 := Lib.hid (Go.Proofs.YtpcdaoeijlifmaaDoor.GoC.apart_cur Kt_31.out)
      have HBw_x_34 := Lib.hid (Below.step HBwt_31.out bw_x_34)
      have ct_32_0__173 := cell_below bw_x_34 ct_32_0
      have ct_32_1__174 := cell_below bw_x_34 ct_32_1
      have ct_32_2__175 := cell_below bw_x_34 ct_32_2
      have ct_32_3__176 := cell_below bw_x_34 ct_32_3
      replace Ot_9 := Lib.hid (own_below Ot_9.out bw_x_34)
      replace Ot_17 := Lib.hid (own_below Ot_17.out bw_x_34)
      replace Kt_31 := Lib.hid (Go.Proofs.YtpcdaoeijlifmaaDoor.GoC.cur_below Kt_31.out bw_x_34)
      clear bw_x_34
      have kx_34_0 : w_x_34.cell? ⟨wt_31.heap.size, 0, none⟩ = some (.int .i64 t_32_id) := by rw [← hw_x_34]; exact box_new _ _ _ 0 _ rfl
      have kx_34_1 : w_x_34.cell? ⟨wt_31.heap.size, 1, none⟩ = some (.int .i64 t_32_wide) := by rw [← hw_x_34]; exact box_new _ _ _ 1 _ rfl
      have kx_34_2 : w_x_34.cell? ⟨wt_31.heap.size, 2, none⟩ = some (.int .i64 t_32_high) := by rw [← hw_x_34]; exact box_new _ _ _ 2 _ rfl
      have kx_34_3 : w_x_34.cell? ⟨wt_31.heap.size, 3, none⟩ = some (.bool t_32_line) := by rw [← hw_x_34]; exact box_new _ _ _ 3 _ rfl
      replace H := bind2_hid H
      obtain ⟨t_37, t_37_tp, qt_37, H⟩ := H
      go_wp2_with fail
      clear ct_32_0 ct_32_1 ct_32_2 ct_32_3
      go_at_call 48
      refine (Go.Proofs.YtpcdaoeijlifmaaDoor.GsL1CurOne.C (t_31_tp) (2) (w.heap.size) (A0) (c0) (w.heap.size) _   Kt_31 qt_37).mono ?_
      rintro e_t_37 wt_37 ⟨rfl, kt_37, gt_37⟩
      have Kt_37 := Lib.hid kt_37
      have Gt_37 : Hid (w_x_34.grownBy wt_37 (Value.slice (some ⟨w.heap.size, 0, none⟩) 1 1).ownBlock) := Lib.hid gt_37
      clear kt_37 gt_37
      have HBwt_37 := Lib.hid (Go.Proofs.YtpcdaoeijlifmaaDoor.GoC.below_cur HBw_x_34.out Gt_37.out HBw_x_34.out.size (Go.Proofs.YtpcdaoeijlifmaaDoor.GoC.cur_lt Kt_31.out).1)
      replace ct_32_0__173 := cell_other ct_32_0__173 Gt_37.out (Apart.symm Dt_9_t_6.out)
      replace ct_32_1__174 := cell_other ct_32_1__174 Gt_37.out (Apart.symm Dt_9_t_6.out)
      replace ct_32_2__175 := cell_other ct_32_2__175 Gt_37.out (Apart.symm Dt_9_t_6.out)
      replace ct_32_3__176 := cell_other ct_32_3__176 Gt_37.out (Apart.symm Dt_9_t_6.out)
      replace kx_34_0 := cell_other kx_34_0 Gt_37.out (Apart.symm Dx_34_t_6.out)
      replace kx_34_1 := cell_other kx_34_1 Gt_37.out (Apart.symm Dx_34_t_6.out)
      replace kx_34_2 := cell_other kx_34_2 Gt_37.out (Apart.symm Dx_34_t_6.out)
      replace kx_34_3 := cell_other kx_34_3 Gt_37.out (Apart.symm Dx_34_t_6.out)
      replace Ot_9 := Lib.hid (own_other Ot_9.out Gt_37.out (Apart.symm Dt_9_t_6.out))
      replace Ot_17 := Lib.hid (own_other Ot_17.out Gt_37.out (Apart.symm Dt_12_t_6.out))
      clear Kt_31 Gt_37
      cases t_37 with
      | false =>
        replace H := ite_f H
        go_wp2_with fail
        have Hct_32_0__173 := Lib.hid ct_32_0__173
        replace ct_32_0__173 := cell_regrown ct_32_0__173
        have Hct_32_1__174 := Lib.hid ct_32_1__174
        replace ct_32_1__174 := cell_regrown ct_32_1__174
        have Hct_32_2__175 := Lib.hid ct_32_2__175
        replace ct_32_2__175 := cell_regrown ct_32_2__175
        have Hct_32_3__176 := Lib.hid ct_32_3__176
        replace ct_32_3__176 := cell_regrown ct_32_3__176
        have Hkx_34_0 := Lib.hid kx_34_0
        replace kx_34_0 := cell_regrown kx_34_0
        have Hkx_34_1 := Lib.hid kx_34_1
        replace kx_34_1 := cell_regrown kx_34_1
        have Hkx_34_2 := Lib.hid kx_34_2
        replace kx_34_2 := cell_regrown kx_34_2
        have Hkx_34_3 := Lib.hid kx_34_3
        replace kx_34_3 := cell_regrown kx_34_3
        refine wp_region_quiet_below (by kernel_rfl) (by kernel_rfl) ?_
        repeat (go_big_quiet_step (fail))
        refine wpQuiet_nil ?_
        intro Y8 hY8
        replace hY8 := below_class hY8
        replace ct_32_0__173 := Hct_32_0__173.out
        clear Hct_32_0__173
        replace ct_32_1__174 := Hct_32_1__174.out
        clear Hct_32_1__174
        replace ct_32_2__175 := Hct_32_2__175.out
        clear Hct_32_2__175
        replace ct_32_3__176 := Hct_32_3__176.out
        clear Hct_32_3__176
        replace kx_34_0 := Hkx_34_0.out
        clear Hkx_34_0
        replace kx_34_1 := Hkx_34_1.out
        clear Hkx_34_1
        replace kx_34_2 := Hkx_34_2.out
        clear Hkx_34_2
        replace kx_34_3 := Hkx_34_3.out
        clear Hkx_34_3
        have HBY8 := Lib.hid (Below.step HBwt_37.out hY8)
        replace ct_32_0__173 := cell_below hY8 ct_32_0__173
        replace ct_32_1__174 := cell_below hY8 ct_32_1__174
        replace ct_32_2__175 := cell_below hY8 ct_32_2__175
        replace ct_32_3__176 := cell_below hY8 ct_32_3__176
        replace kx_34_0 := cell_below hY8 kx_34_0
        replace kx_34_1 := cell_below hY8 kx_34_1
        replace kx_34_2 := cell_below hY8 kx_34_2
        replace kx_34_3 := cell_below hY8 kx_34_3
        replace Ot_9 := Lib.hid (own_below Ot_9.out hY8)
        replace Ot_17 := Lib.hid (own_below Ot_17.out hY8)
        replace Kt_37 := Lib.hid (Go.Proofs.YtpcdaoeijlifmaaDoor.GoC.cur_below Kt_37.out hY8)
        clear hY8
        cases ret_hid H
        go_wp2_with fail
        (try simp only [Exit.inBlock, Exit.then]); refine bodyPost_ret (results_tmp4 rfl _ _ _) rfl ?_
        exact ⟨(some ⟨qt_32, 0, none⟩), ct_9, rfl, Ot_9.out, HBY8.out⟩
      | true =>
        replace H := ite_t H
        go_wp2_with fail
        have Hct_32_0__173 := Lib.hid ct_32_0__173
        replace ct_32_0__173 := cell_regrown ct_32_0__173
        have Hct_32_1__174 := Lib.hid ct_32_1__174
        replace ct_32_1__174 := cell_regrown ct_32_1__174
        have Hct_32_2__175 := Lib.hid ct_32_2__175
        replace ct_32_2__175 := cell_regrown ct_32_2__175
        have Hct_32_3__176 := Lib.hid ct_32_3__176
        replace ct_32_3__176 := cell_regrown ct_32_3__176
        have Hkx_34_0 := Lib.hid kx_34_0
        replace kx_34_0 := cell_regrown kx_34_0
        have Hkx_34_1 := Lib.hid kx_34_1
        replace kx_34_1 := cell_regrown kx_34_1
        have Hkx_34_2 := Lib.hid kx_34_2
        replace kx_34_2 := cell_regrown kx_34_2
        have Hkx_34_3 := Lib.hid kx_34_3
        replace kx_34_3 := cell_regrown kx_34_3
        refine wp_region_quiet_below (by kernel_rfl) (by kernel_rfl) ?_
        repeat (go_big_quiet_step (fail))
        refine wpQuiet_nil ?_
        intro Y7 hY7
        replace hY7 := below_class hY7
        replace ct_32_0__173 := Hct_32_0__173.out
        clear Hct_32_0__173
        replace ct_32_1__174 := Hct_32_1__174.out
        clear Hct_32_1__174
        replace ct_32_2__175 := Hct_32_2__175.out
        clear Hct_32_2__175
        replace ct_32_3__176 := Hct_32_3__176.out
        clear Hct_32_3__176
        replace kx_34_0 := Hkx_34_0.out
        clear Hkx_34_0
        replace kx_34_1 := Hkx_34_1.out
        clear Hkx_34_1
        replace kx_34_2 := Hkx_34_2.out
        clear Hkx_34_2
        replace kx_34_3 := Hkx_34_3.out
        clear Hkx_34_3
        have HBY7 := Lib.hid (Below.step HBwt_37.out hY7)
        replace ct_32_0__173 := cell_below hY7 ct_32_0__173
        replace ct_32_1__174 := cell_below hY7 ct_32_1__174
        replace ct_32_2__175 := cell_below hY7 ct_32_2__175
        replace ct_32_3__176 := cell_below hY7 ct_32_3__176
        replace kx_34_0 := cell_below hY7 kx_34_0
        replace kx_34_1 := cell_below hY7 kx_34_1
        replace kx_34_2 := cell_below hY7 kx_34_2
        replace kx_34_3 := cell_below hY7 kx_34_3
        replace Ot_9 := Lib.hid (own_below Ot_9.out hY7)
        replace Ot_17 := Lib.hid (own_below Ot_17.out hY7)
        replace Kt_37 := Lib.hid (Go.Proofs.YtpcdaoeijlifmaaDoor.GoC.cur_below Kt_37.out hY7)
        clear hY7
        cases ret_hid H
        go_wp2_with fail
        (try simp only [Exit.inBlock, Exit.then]); refine bodyPost_ret (results_tmp4 rfl _ _ _) rfl ?_
        exact ⟨(some ⟨qt_32, 0, none⟩), ct_9, rfl, Ot_9.out, HBY7.out⟩
end Go.Proofs.YtpcdaoeijlifmaaDoor.GsDrawMatchCombs

/- loop.example/g01062/impl.within as a plain function, and the contract of the program's: where the plain one has an answer, the program has it. Conditions: slices read as lists. -/
namespace Go.Proofs.YtpcdaoeijlifmaaDoor.GiWithin
set_option linter.unusedVariables false
set_option linter.unusedSimpArgs false
open Go.RowKit
open Go.Proofs.YtpcdaoeijlifmaaDoor.Rowed Go.Proofs.YtpcdaoeijlifmaaDoor.Turn Go.Proofs.YtpcdaoeijlifmaaDoor.Aid Go.Proofs.YtpcdaoeijlifmaaDoor.GoP Go.Proofs.YtpcdaoeijlifmaaDoor.GoM

def P (n_0 : Int) (low : Int) (high : Int) : Option (Bool) :=
  letK (decide (low ≤ n_0)) fun (t_3 : Bool) =>
  joinK (fun (t_8 : Bool) =>
  some t_8) fun jt_8 => iteK t_3 (letK (decide (n_0 ≤ high)) fun (t_7 : Bool) =>
  appK jt_8 t_7) (appK jt_8 false)

set_option maxRecDepth 100000 in
set_option maxHeartbeats 2000000 in
theorem C (n_0 : Int) (low : Int) (high : Int)   (w : World)   {r : Bool} (H : Hid (P n_0 low high = some r)) :
    Calls Tryd.prog 92 #[.int .i64 n_0, .int .i64 low, .int .i64 high] w (Gives (.bool r) w) := by
  have HB := Lib.hid (Below.refl w.heap.size w)
  unfold P at H
  go_enter Tryd.func92, Tryd.ntmps92
  replace H := let_hid H
  obtain ⟨t_3, ht_3, H⟩ := H
  replace H := join_hid H
  cases t_3 with
  | false =>
    replace H := ite_f H
    replace H := app_hid H
    obtain rfl := ret_hid H
    go_wp2_with fail
    go_ret
    exact ⟨rfl, HB.out⟩
  | true =>
    replace H := ite_t H
    replace H := let_hid H
    obtain ⟨t_7, ht_7, H⟩ := H
    replace H := app_hid H
    obtain rfl := ret_hid H
    go_wp2_with fail
    go_ret
    exact ⟨rfl, HB.out⟩

set_option maxRecDepth 100000 in
set_option maxHeartbeats 2000000 in
theorem C0 (n_0 : Int) (low : Int) (high : Int)   (w : World)   {r : Bool} (H : Hid (P n_0 low high = some r)) :
    Calls Tryd.prog 92 #[.int .i64 n_0, .int .i64 low, .int .i64 high] w (fun e w'' => e = .returned (.bool r) ∧ w'' = w) := by
  have HB := Lib.hid (Below.refl w.heap.size w)
  unfold P at H
  go_enter Tryd.func92, Tryd.ntmps92
  replace H := let_hid H
  obtain ⟨t_3, ht_3, H⟩ := H
  replace H := join_hid H
  cases t_3 with
  | false =>
    replace H := ite_f H
    replace H := app_hid H
    obtain rfl := ret_hid H
    go_wp2_with fail
    go_ret
    exact ⟨rfl, rfl⟩
  | true =>
    replace H := ite_t H
    replace H := let_hid H
    obtain ⟨t_7, ht_7, H⟩ := H
    replace H := app_hid H
    obtain rfl := ret_hid H
    go_wp2_with fail
    go_ret
    exact ⟨rfl, rfl⟩
end Go.Proofs.YtpcdaoeijlifmaaDoor.GiWithin

/- loop.example/g01062/impl.isGauge as a plain function, and the contract of the program's: where the plain one has an answer, the program has it. Conditions: slices read as lists. -/
namespace Go.Proofs.YtpcdaoeijlifmaaDoor.GiIsGauge
set_option linter.unusedVariables false
set_option linter.unusedSimpArgs false
open Go.RowKit
open Go.Proofs.YtpcdaoeijlifmaaDoor.Rowed Go.Proofs.YtpcdaoeijlifmaaDoor.Turn Go.Proofs.YtpcdaoeijlifmaaDoor.Aid Go.Proofs.YtpcdaoeijlifmaaDoor.GoP Go.Proofs.YtpcdaoeijlifmaaDoor.GoM

def P (gauge : Int) : Option (Bool) :=
  Option.bind (Go.Proofs.YtpcdaoeijlifmaaDoor.GiWithin.P gauge 500 2000) fun (t_2 : Bool) =>
  some t_2

set_option maxRecDepth 100000 in
set_option maxHeartbeats 2000000 in
theorem C (gauge : Int)   (w : World)   {r : Bool} (H : Hid (P gauge = some r)) :
    Calls Tryd.prog 61 #[.int .i64 gauge] w (Gives (.bool r) w) := by
  have HB := Lib.hid (Below.refl w.heap.size w)
  unfold P at H
  go_enter Tryd.func61, Tryd.ntmps61
  replace H := bind_hid H
  obtain ⟨t_2, qt_2, H⟩ := H
  go_wp2_with fail
  go_at_call 92
  refine (Go.Proofs.YtpcdaoeijlifmaaDoor.GiWithin.C (gauge) (500) (2000)  _    qt_2).mono ?_
  rintro e_t_2 wt_2 ⟨rfl, bt_2⟩
  have HBwt_2 := Lib.hid (Below.step HB.out bt_2)
  clear bt_2
  obtain rfl := ret_hid H
  go_wp2_with fail
  go_ret
  exact ⟨rfl, HBwt_2.out⟩
end Go.Proofs.YtpcdaoeijlifmaaDoor.GiIsGauge

/- loop.example/g01062/impl.isComb as a plain function, and the contract of the program's: where the plain one has an answer, the program has it. Conditions: slices read as lists. -/
namespace Go.Proofs.YtpcdaoeijlifmaaDoor.GiIsComb
set_option linter.unusedVariables false
set_option linter.unusedSimpArgs false
open Go.RowKit
open Go.Proofs.YtpcdaoeijlifmaaDoor.Rowed Go.Proofs.YtpcdaoeijlifmaaDoor.Turn Go.Proofs.YtpcdaoeijlifmaaDoor.Aid Go.Proofs.YtpcdaoeijlifmaaDoor.GoP Go.Proofs.YtpcdaoeijlifmaaDoor.GoM

def P (x : Go.Proofs.YtpcdaoeijlifmaaDoor.PComb.Comb) : Option (Bool) :=
  unComb x fun (x_id : Int) (x_wide : Int) (x_high : Int) (x_line : Bool) =>
  Option.bind (Go.Proofs.YtpcdaoeijlifmaaDoor.GiWithin.P x_id 1 99) fun (t_4 : Bool) =>
  joinK (fun (t_9 : Bool) =>
  joinK (fun (t_14 : Bool) =>
  some t_14) fun jt_14 => iteK t_9 (Option.bind (Go.Proofs.YtpcdaoeijlifmaaDoor.GiIsGauge.P x_high) fun (t_13 : Bool) =>
  appK jt_14 t_13) (appK jt_14 false)) fun jt_9 => iteK t_4 (Option.bind (Go.Proofs.YtpcdaoeijlifmaaDoor.GiIsGauge.P x_wide) fun (t_8 : Bool) =>
  appK jt_9 t_8) (appK jt_9 false)

set_option maxRecDepth 100000 in
set_option maxHeartbeats 2000000 in
theorem C (x : Go.Proofs.YtpcdaoeijlifmaaDoor.PComb.Comb)   (w : World)   {r : Bool} (H : Hid (P x = some r)) :
    Calls Tryd.prog 68 #[x.val] w (Gives (.bool r) w) := by
  have HB := Lib.hid (Below.refl w.heap.size w)
  unfold P at H
  obtain ⟨x_id, x_wide, x_high, x_line⟩ := x
  replace H := unComb_hid H
  unfold Go.Proofs.YtpcdaoeijlifmaaDoor.PComb.Comb.val
  go_enter Tryd.func68, Tryd.ntmps68
  obtain ⟨w_x_0, hw_x_0⟩ : ∃ x, w.alloc (.cells #[.int .i64 x_id, .int .i64 x_wide, .int .i64 x_high, .bool x_line] 43) = x := ⟨_, rfl⟩
  have bw_x_0 : Below w.heap.size w w_x_0 := by rw [← hw_x_0]; exact (Below.refl _ _).alloc (Nat.le_refl _) _
  have HBw_x_0 := Lib.hid (Below.step HB.out bw_x_0)
  clear bw_x_0
  have kx_0_0 : w_x_0.cell? ⟨w.heap.size, 0, none⟩ = some (.int .i64 x_id) := by rw [← hw_x_0]; exact box_new _ _ _ 0 _ rfl
  have kx_0_1 : w_x_0.cell? ⟨w.heap.size, 1, none⟩ = some (.int .i64 x_wide) := by rw [← hw_x_0]; exact box_new _ _ _ 1 _ rfl
  have kx_0_2 : w_x_0.cell? ⟨w.heap.size, 2, none⟩ = some (.int .i64 x_high) := by rw [← hw_x_0]; exact box_new _ _ _ 2 _ rfl
  have kx_0_3 : w_x_0.cell? ⟨w.heap.size, 3, none⟩ = some (.bool x_line) := by rw [← hw_x_0]; exact box_new _ _ _ 3 _ rfl
  replace H := bind_hid H
  obtain ⟨t_4, qt_4, H⟩ := H
  go_wp2_with fail
  go_at_call 92
  refine (Go.Proofs.YtpcdaoeijlifmaaDoor.GiWithin.C (x_id) (1) (99)  _    qt_4).mono ?_
  rintro e_t_4 wt_4 ⟨rfl, bt_4⟩
  have HBwt_4 := Lib.hid (Below.step HBw_x_0.out bt_4)
  replace kx_0_0 := cell_below bt_4 kx_0_0
  replace kx_0_1 := cell_below bt_4 kx_0_1
  replace kx_0_2 := cell_below bt_4 kx_0_2
  replace kx_0_3 := cell_below bt_4 kx_0_3
  clear bt_4
  replace H := join_hid H
  cases t_4 with
  | false =>
    replace H := ite_f H
    replace H := app_hid H
    replace H := join_hid H
    replace H := ite_f H
    replace H := app_hid H
    obtain rfl := ret_hid H
    go_wp2_with fail
    go_ret
    exact ⟨rfl, HBwt_4.out⟩
  | true =>
    replace H := ite_t H
    replace H := bind_hid H
    obtain ⟨t_8, qt_8, H⟩ := H
    go_wp2_with fail
    go_at_call 61
    refine (Go.Proofs.YtpcdaoeijlifmaaDoor.GiIsGauge.C (x_wide)  _    qt_8).mono ?_
    rintro e_t_8 wt_8 ⟨rfl, bt_8⟩
    have HBwt_8 := Lib.hid (Below.step HBwt_4.out bt_8)
    replace kx_0_0 := cell_below bt_8 kx_0_0
    replace kx_0_1 := cell_below bt_8 kx_0_1
    replace kx_0_2 := cell_below bt_8 kx_0_2
    replace kx_0_3 := cell_below bt_8 kx_0_3
    clear bt_8
    replace H := app_hid H
    replace H := join_hid H
    cases t_8 with
    | false =>
      replace H := ite_f H
      replace H := app_hid H
      obtain rfl := ret_hid H
      go_wp2_with fail
      go_ret
      exact ⟨rfl, HBwt_8.out⟩
    | true =>
      replace H := ite_t H
      replace H := bind_hid H
      obtain ⟨t_13, qt_13, H⟩ := H
      go_wp2_with fail
      go_at_call 61
      refine (Go.Proofs.YtpcdaoeijlifmaaDoor.GiIsGauge.C (x_high)  _    qt_13).mono ?_
      rintro e_t_13 wt_13 ⟨rfl, bt_13⟩
      have HBwt_13 := Lib.hid (Below.step HBwt_8.out bt_13)
      replace kx_0_0 := cell_below bt_13 kx_0_0
      replace kx_0_1 := cell_below bt_13 kx_0_1
      replace kx_0_2 := cell_below bt_13 kx_0_2
      replace kx_0_3 := cell_below bt_13 kx_0_3
      clear bt_13
      replace H := app_hid H
      obtain rfl := ret_hid H
      go_wp2_with fail
      go_ret
      exact ⟨rfl, HBwt_13.out⟩
end Go.Proofs.YtpcdaoeijlifmaaDoor.GiIsComb

/- loop.example/g01062/impl.idOfComb as a plain function, and the contract of the program's: where the plain one has an answer, the program has it. Conditions: slices read as lists. -/
namespace Go.Proofs.YtpcdaoeijlifmaaDoor.GiIdOfComb
set_option linter.unusedVariables false
set_option linter.unusedSimpArgs false
open Go.RowKit
open Go.Proofs.YtpcdaoeijlifmaaDoor.Rowed Go.Proofs.YtpcdaoeijlifmaaDoor.Turn Go.Proofs.YtpcdaoeijlifmaaDoor.Aid Go.Proofs.YtpcdaoeijlifmaaDoor.GoP Go.Proofs.YtpcdaoeijlifmaaDoor.GoM

def P (x : Go.Proofs.YtpcdaoeijlifmaaDoor.PComb.Comb) : Option (Int) :=
  unComb x fun (x_id : Int) (x_wide : Int) (x_high : Int) (x_line : Bool) =>
  some x_id

set_option maxRecDepth 100000 in
set_option maxHeartbeats 2000000 in
theorem C (x : Go.Proofs.YtpcdaoeijlifmaaDoor.PComb.Comb)   (w : World)   {r : Int} (H : Hid (P x = some r)) :
    Calls Tryd.prog 52 #[x.val] w (Gives (.int .i64 r) w) := by
  have HB := Lib.hid (Below.refl w.heap.size w)
  unfold P at H
  obtain ⟨x_id, x_wide, x_high, x_line⟩ := x
  replace H := unComb_hid H
  unfold Go.Proofs.YtpcdaoeijlifmaaDoor.PComb.Comb.val
  go_enter Tryd.func52, Tryd.ntmps52
  obtain ⟨w_x_0, hw_x_0⟩ : ∃ x, w.alloc (.cells #[.int .i64 x_id, .int .i64 x_wide, .int .i64 x_high, .bool x_line] 43) = x := ⟨_, rfl⟩
  have bw_x_0 : Below w.heap.size w w_x_0 := by rw [← hw_x_0]; exact (Below.refl _ _).alloc (Nat.le_refl _) _
  have HBw_x_0 := Lib.hid (Below.step HB.out bw_x_0)
  clear bw_x_0
  have kx_0_0 : w_x_0.cell? ⟨w.heap.size, 0, none⟩ = some (.int .i64 x_id) := by rw [← hw_x_0]; exact box_new _ _ _ 0 _ rfl
  have kx_0_1 : w_x_0.cell? ⟨w.heap.size, 1, none⟩ = some (.int .i64 x_wide) := by rw [← hw_x_0]; exact box_new _ _ _ 1 _ rfl
  have kx_0_2 : w_x_0.cell? ⟨w.heap.size, 2, none⟩ = some (.int .i64 x_high) := by rw [← hw_x_0]; exact box_new _ _ _ 2 _ rfl
  have kx_0_3 : w_x_0.cell? ⟨w.heap.size, 3, none⟩ = some (.bool x_line) := by rw [← hw_x_0]; exact box_new _ _ _ 3 _ rfl
  obtain rfl := ret_hid H
  go_wp2_with fail
  go_ret
  exact ⟨rfl, HBw_x_0.out⟩
end Go.Proofs.YtpcdaoeijlifmaaDoor.GiIdOfComb

/- loop.example/g01062/impl.areById[loop.example/g01062/impl.Comb] as a plain function, and the contract of the program's: where the plain one has an answer, the program has it. Conditions: slices read as lists. -/
namespace Go.Proofs.YtpcdaoeijlifmaaDoor.GiAreByIdCombiIsCombiIdOfComb
set_option linter.unusedVariables false
set_option linter.unusedSimpArgs false
open Go.RowKit
open Go.Proofs.YtpcdaoeijlifmaaDoor.Rowed Go.Proofs.YtpcdaoeijlifmaaDoor.Turn Go.Proofs.YtpcdaoeijlifmaaDoor.Aid Go.Proofs.YtpcdaoeijlifmaaDoor.GoP Go.Proofs.YtpcdaoeijlifmaaDoor.GoM

def l0 (list : (List Go.Proofs.YtpcdaoeijlifmaaDoor.PComb.Comb)) (k0 : Nat) (s : Unit) (nx0 bk0 : Unit → Option (Bool)) : Option (Bool) :=
  
  Option.bind (idx list (k0 : Int)) fun (yt_11 : Go.Proofs.YtpcdaoeijlifmaaDoor.PComb.Comb) =>
  unComb yt_11 fun (t_11_id : Int) (t_11_wide : Int) (t_11_high : Int) (t_11_line : Bool) =>
  Option.bind (Go.Proofs.YtpcdaoeijlifmaaDoor.GiIsComb.P (Go.Proofs.YtpcdaoeijlifmaaDoor.PComb.Comb.mk t_11_id t_11_wide t_11_high t_11_line)) fun (t_18 : Bool) =>
  letK (!t_18) fun (t_19 : Bool) =>
  joinK (fun (t_36 : Bool) =>
  iteK t_36
  (some false)
  (appK nx0 ())) fun jt_36 => iteK t_19 (appK jt_36 true) (letK (decide (0 < (k0 : Int))) fun (t_22 : Bool) =>
  joinK (fun (t_35 : Bool) =>
  appK jt_36 t_35) fun jt_35 => iteK t_22 (Option.bind (Go.Proofs.YtpcdaoeijlifmaaDoor.GiIdOfComb.P (Go.Proofs.YtpcdaoeijlifmaaDoor.PComb.Comb.mk t_11_id t_11_wide t_11_high t_11_line)) fun (t_26 : Int) =>
  letK (IntKind.i64.wrap ((k0 : Int) - 1)) fun (t_30 : Int) =>
  Option.bind (idx list t_30) fun (yt_31 : Go.Proofs.YtpcdaoeijlifmaaDoor.PComb.Comb) =>
  unComb yt_31 fun (t_31_id : Int) (t_31_wide : Int) (t_31_high : Int) (t_31_line : Bool) =>
  Option.bind (Go.Proofs.YtpcdaoeijlifmaaDoor.GiIdOfComb.P (Go.Proofs.YtpcdaoeijlifmaaDoor.PComb.Comb.mk t_31_id t_31_wide t_31_high t_31_line)) fun (t_33 : Int) =>
  letK (decide (t_26 ≤ t_33)) fun (t_34 : Bool) =>
  appK jt_35 t_34) (appK jt_35 false))

def e0  (s : Unit) : Option (Bool) :=
  
  some true

def P (list : (List Go.Proofs.YtpcdaoeijlifmaaDoor.PComb.Comb)) (most : Int) : Option (Bool) :=
  letK (decide (most < (list.length : Int))) fun (t_4 : Bool) =>
  iteK t_4
  (some false)
  (cntK (l0 list) (list.length) 0 () (e0 ))

set_option maxRecDepth 100000 in
set_option maxHeartbeats 2000000 in
theorem C (list : (List Go.Proofs.YtpcdaoeijlifmaaDoor.PComb.Comb)) (most : Int) (A0 : Option Addr) (c0 : Nat)  (w : World) (M0 : Hid (Cells w 4 A0 list.length (Go.Proofs.YtpcdaoeijlifmaaDoor.PComb.flat list))) (N0 : Hid (list.length ≤ 9223372036854775807))  {r : Bool} (H : Hid (P list most = some r)) :
    Calls Tryd.prog 72 #[.slice A0 list.length c0, .int .i64 most, .func (.func 68) #[] #[], .func (.func 52) #[] #[]] w (Gives (.bool r) w) := by
  have HB := Lib.hid (Below.refl w.heap.size w)
  unfold P at H
  have N0o := N0.out
  go_enter Tryd.func72, Tryd.ntmps72
  replace H := let_hid H
  obtain ⟨t_4, ht_4, H⟩ := H
  cases t_4 with
  | false =>
    replace H := ite_f H
    go_wp2_with fail
    go_loopg [17] (list.length) (fun m_ v17_ wr => ∃ (k0 : Nat) , k0 + m_ = list.length ∧ v17_ = .int .i64 (k0 : Int) ∧ Hid (cntK (l0 list) m_ k0 () (e0 ) = some r) ∧ Hid (Below w.heap.size w wr))
    case atStart => exact ⟨0, by omega, rfl, H, HB⟩
    case round =>
      obtain ⟨k0, hkm0, rfl, H, HBwr0⟩ := hrel
      rename World => wr0
      cases gk with
      | zero =>
        obtain rfl : k0 = list.length := by omega
        have hc0 : decide (((list.length : Nat) : Int) < ((list.length : Nat) : Int)) = false := by simp
        replace H := cnt_zero H
        unfold e0 at H
        obtain rfl := ret_hid H
        go_wp2_with fail
        go_ret
        exact ⟨rfl, HBwr0.out⟩
      | succ m0 =>
        have hlt0 : k0 < list.length := by omega
        have hc0 : decide ((k0 : Int) < ((list.length : Nat) : Int)) = true := by simp; omega
        replace H := cnt_succ H
        unfold l0 at H
        replace H := idx_hid H
        obtain ⟨nt_11, yt_11, et_11, lt_11, gt_11, H⟩ := H
        obtain rfl : k0 = nt_11 := by omega
        clear et_11
        obtain ⟨t_11_id, t_11_wide, t_11_high, t_11_line⟩ := yt_11
        replace H := unComb_hid H
        obtain ⟨ab_t_11, ao_t_11, zt_11, At_11, z_t_11, ct_11_0, ct_11_1, ct_11_2, ct_11_3⟩ := Go.Proofs.YtpcdaoeijlifmaaDoor.OComb.at_ M0.out lt_11
        obtain rfl := Option.some.inj (gt_11.out.symm.trans z_t_11)
        subst At_11
        have ltt_11 := cell_lt ct_11_0
        replace ct_11_0 := cell_below HBwr0.out ct_11_0
        replace ct_11_1 := cell_below HBwr0.out ct_11_1
        replace ct_11_2 := cell_below HBwr0.out ct_11_2
        replace ct_11_3 := cell_below HBwr0.out ct_11_3
        clear z_t_11
        have b0t_11 : (0 : Int) ≤ (k0 : Int) := by omega
        have b1t_11 : (k0 : Int) < ((list.length : Nat) : Int) := by omega
        have b2t_11 : ((k0 : Int)).toNat = k0 := by omega
        obtain ⟨w_e_13, hw_e_13⟩ : ∃ x, wr0.alloc (.cells #[.int .i64 t_11_id, .int .i64 t_11_wide, .int .i64 t_11_high, .bool t_11_line] 43) = x := ⟨_, rfl⟩
        have bw_e_13 : Below wr0.heap.size wr0 w_e_13 := by rw [← hw_e_13]; exact (Below.refl _ _).alloc (Nat.le_refl _) _
        have HBw_e_13 := Lib.hid (Below.step HBwr0.out bw_e_13)
        have ct_11_0__177 := cell_below bw_e_13 ct_11_0
        have ct_11_1__178 := cell_below bw_e_13 ct_11_1
        have ct_11_2__179 := cell_below bw_e_13 ct_11_2
        have ct_11_3__180 := cell_below bw_e_13 ct_11_3
        clear bw_e_13
        have ke_13_0 : w_e_13.cell? ⟨wr0.heap.size, 0, none⟩ = some (.int .i64 t_11_id) := by rw [← hw_e_13]; exact box_new _ _ _ 0 _ rfl
        have ke_13_1 : w_e_13.cell? ⟨wr0.heap.size, 1, none⟩ = some (.int .i64 t_11_wide) := by rw [← hw_e_13]; exact box_new _ _ _ 1 _ rfl
        have ke_13_2 : w_e_13.cell? ⟨wr0.heap.size, 2, none⟩ = some (.int .i64 t_11_high) := by rw [← hw_e_13]; exact box_new _ _ _ 2 _ rfl
        have ke_13_3 : w_e_13.cell? ⟨wr0.heap.size, 3, none⟩ = some (.bool t_11_line) := by rw [← hw_e_13]; exact box_new _ _ _ 3 _ rfl
        go_wp2_with fail
        clear ct_11_0 ct_11_1 ct_11_2 ct_11_3
        have Hct_11_0__177 := Lib.hid ct_11_0__177
        replace ct_11_0__177 := cell_regrown ct_11_0__177
        have Hct_11_1__178 := Lib.hid ct_11_1__178
        replace ct_11_1__178 := cell_regrown ct_11_1__178
        have Hct_11_2__179 := Lib.hid ct_11_2__179
        replace ct_11_2__179 := cell_regrown ct_11_2__179
        have Hct_11_3__180 := Lib.hid ct_11_3__180
        replace ct_11_3__180 := cell_regrown ct_11_3__180
        have Hke_13_0 := Lib.hid ke_13_0
        replace ke_13_0 := cell_regrown ke_13_0
        have Hke_13_1 := Lib.hid ke_13_1
        replace ke_13_1 := cell_regrown ke_13_1
        have Hke_13_2 := Lib.hid ke_13_2
        replace ke_13_2 := cell_regrown ke_13_2
        have Hke_13_3 := Lib.hid ke_13_3
        replace ke_13_3 := cell_regrown ke_13_3
        replace H := bind_hid H
        obtain ⟨t_18, qt_18, H⟩ := H
        have nt_18 : ∀ d os, Calls Tryd.prog 68 #[.agg #[.int .i64 t_11_id, .int .i64 t_11_wide, .int .i64 t_11_high, .bool t_11_line]] (Go.Sort.grow (redrawn w_e_13 d) os) fun e w'' => e = .returned (.bool t_18) ∧ ∃ p : Regrown, w'' = Go.Sort.grow (redrawn w_e_13 p.d) p.os := fun d os => Calls.regrown_of (Go.Proofs.YtpcdaoeijlifmaaDoor.GiIsComb.C ((Go.Proofs.YtpcdaoeijlifmaaDoor.PComb.Comb.mk t_11_id t_11_wide t_11_high t_11_line))  _    qt_18)
        cases t_18 with
        | false =>
          replace H := let_hid H
          obtain ⟨t_19, ht_19, H⟩ := H
          obtain rfl : t_19 = true := ht_19.symm
          replace H := join_hid H
          replace H := ite_t H
          replace H := app_hid H
          refine wp_region_quiet_below (by kernel_rfl) (by kernel_rfl) ?_
          repeat (go_big_quiet_step (first | (go_at_call 68; exact nt_18 _ _)))
          refine wpQuiet_nil ?_
          intro Y6 hY6
          replace hY6 := below_class hY6
          clear nt_18
          replace ct_11_0__177 := Hct_11_0__177.out
          clear Hct_11_0__177
          replace ct_11_1__178 := Hct_11_1__178.out
          clear Hct_11_1__178
          replace ct_11_2__179 := Hct_11_2__179.out
          clear Hct_11_2__179
          replace ct_11_3__180 := Hct_11_3__180.out
          clear Hct_11_3__180
          replace ke_13_0 := Hke_13_0.out
          clear Hke_13_0
          replace ke_13_1 := Hke_13_1.out
          clear Hke_13_1
          replace ke_13_2 := Hke_13_2.out
          clear Hke_13_2
          replace ke_13_3 := Hke_13_3.out
          clear Hke_13_3
          have HBY6 := Lib.hid (Below.step HBw_e_13.out hY6)
          replace ct_11_0__177 := cell_below hY6 ct_11_0__177
          replace ct_11_1__178 := cell_below hY6 ct_11_1__178
          replace ct_11_2__179 := cell_below hY6 ct_11_2__179
          replace ct_11_3__180 := cell_below hY6 ct_11_3__180
          replace ke_13_0 := cell_below hY6 ke_13_0
          replace ke_13_1 := cell_below hY6 ke_13_1
          replace ke_13_2 := cell_below hY6 ke_13_2
          replace ke_13_3 := cell_below hY6 ke_13_3
          clear hY6
          replace H := ite_t H
          obtain rfl := ret_hid H
          go_wp2_with fail
          go_ret
          exact ⟨rfl, HBY6.out⟩
        | true =>
          replace H := let_hid H
          obtain ⟨t_19, ht_19, H⟩ := H
          obtain rfl : t_19 = false := ht_19.symm
          replace H := join_hid H
          replace H := ite_f H
          replace H := let_hid H
          obtain ⟨t_22, ht_22, H⟩ := H
          replace H := join_hid H
          cases t_22 with
          | false =>
            have nht_22 : ¬ (0 < k0) := by have := of_decide_eq_false ht_22; omega
            replace H := ite_f H
            replace H := app_hid H
            replace H := app_hid H
            refine wp_region_quiet_below (by kernel_rfl) (by kernel_rfl) ?_
            repeat (go_big_quiet_step (first | (go_at_call 68; exact nt_18 _ _)))
            refine wpQuiet_nil ?_
            intro Y6 hY6
            replace hY6 := below_class hY6
            clear nt_18
            replace ct_11_0__177 := Hct_11_0__177.out
            clear Hct_11_0__177
            replace ct_11_1__178 := Hct_11_1__178.out
            clear Hct_11_1__178
            replace ct_11_2__179 := Hct_11_2__179.out
            clear Hct_11_2__179
            replace ct_11_3__180 := Hct_11_3__180.out
            clear Hct_11_3__180
            replace ke_13_0 := Hke_13_0.out
            clear Hke_13_0
            replace ke_13_1 := Hke_13_1.out
            clear Hke_13_1
            replace ke_13_2 := Hke_13_2.out
            clear Hke_13_2
            replace ke_13_3 := Hke_13_3.out
            clear Hke_13_3
            have HBY6 := Lib.hid (Below.step HBw_e_13.out hY6)
            replace ct_11_0__177 := cell_below hY6 ct_11_0__177
            replace ct_11_1__178 := cell_below hY6 ct_11_1__178
            replace ct_11_2__179 := cell_below hY6 ct_11_2__179
            replace ct_11_3__180 := cell_below hY6 ct_11_3__180
            replace ke_13_0 := cell_below hY6 ke_13_0
            replace ke_13_1 := cell_below hY6 ke_13_1
            replace ke_13_2 := cell_below hY6 ke_13_2
            replace ke_13_3 := cell_below hY6 ke_13_3
            clear hY6
            replace H := ite_f H
            replace H := app_hid H
            go_wp2_with fail
            go_roundg m0
            case measure => omega
            case rel => exact ⟨k0 + 1, by omega, by go_num, H, HBY6⟩
          | true =>
            have nht_22 : 0 < k0 := by have := of_decide_eq_true ht_22; omega
            replace H := ite_t H
            replace H := bind_hid H
            obtain ⟨t_26, qt_26, H⟩ := H
            have nt_26 : ∀ d os, Calls Tryd.prog 52 #[.agg #[.int .i64 t_11_id, .int .i64 t_11_wide, .int .i64 t_11_high, .bool t_11_line]] (Go.Sort.grow (redrawn w_e_13 d) os) fun e w'' => e = .returned (.int .i64 t_26) ∧ ∃ p : Regrown, w'' = Go.Sort.grow (redrawn w_e_13 p.d) p.os := fun d os => Calls.regrown_of (Go.Proofs.YtpcdaoeijlifmaaDoor.GiIdOfComb.C ((Go.Proofs.YtpcdaoeijlifmaaDoor.PComb.Comb.mk t_11_id t_11_wide t_11_high t_11_line))  _    qt_26)
            replace H := let_hid H
            obtain ⟨t_30, ht_30, H⟩ := H
            replace H := idx_hid H
            obtain ⟨nt_31, yt_31, et_31, lt_31, gt_31, H⟩ := H
            subst et_31
            obtain ⟨t_31_id, t_31_wide, t_31_high, t_31_line⟩ := yt_31
            replace H := unComb_hid H
            obtain ⟨ab_t_31, ao_t_31, zt_31, At_31, z_t_31, ct_31_0, ct_31_1, ct_31_2, ct_31_3⟩ := Go.Proofs.YtpcdaoeijlifmaaDoor.OComb.at_ M0.out lt_31
            obtain rfl := Option.some.inj (gt_31.out.symm.trans z_t_31)
            simp only [Option.some.injEq, Addr.mk.injEq] at At_31
            obtain ⟨rfl, rfl, _⟩ := At_31
            have ltt_31 := cell_lt ct_31_0
            replace ct_31_0 := cell_below HBw_e_13.out ct_31_0
            replace ct_31_1 := cell_below HBw_e_13.out ct_31_1
            replace ct_31_2 := cell_below HBw_e_13.out ct_31_2
            replace ct_31_3 := cell_below HBw_e_13.out ct_31_3
            clear z_t_31
            have b0t_31 : (0 : Int) ≤ (nt_31 : Int) := by omega
            have b1t_31 : (nt_31 : Int) < ((list.length : Nat) : Int) := by omega
            have b2t_31 : ((nt_31 : Int)).toNat = nt_31 := by omega
            have Hct_31_0 := Lib.hid ct_31_0
            replace ct_31_0 := cell_regrown ct_31_0
            have Hct_31_1 := Lib.hid ct_31_1
            replace ct_31_1 := cell_regrown ct_31_1
            have Hct_31_2 := Lib.hid ct_31_2
            replace ct_31_2 := cell_regrown ct_31_2
            have Hct_31_3 := Lib.hid ct_31_3
            replace ct_31_3 := cell_regrown ct_31_3
            replace H := bind_hid H
            obtain ⟨t_33, qt_33, H⟩ := H
            have nt_33 : ∀ d os, Calls Tryd.prog 52 #[.agg #[.int .i64 t_31_id, .int .i64 t_31_wide, .int .i64 t_31_high, .bool t_31_line]] (Go.Sort.grow (redrawn w_e_13 d) os) fun e w'' => e = .returned (.int .i64 t_33) ∧ ∃ p : Regrown, w'' = Go.Sort.grow (redrawn w_e_13 p.d) p.os := fun d os => Calls.regrown_of (Go.Proofs.YtpcdaoeijlifmaaDoor.GiIdOfComb.C ((Go.Proofs.YtpcdaoeijlifmaaDoor.PComb.Comb.mk t_31_id t_31_wide t_31_high t_31_line))  _    qt_33)
            replace H := let_hid H
            obtain ⟨t_34, ht_34, H⟩ := H
            replace H := app_hid H
            replace H := app_hid H
            refine wp_region_quiet_below (by kernel_rfl) (by kernel_rfl) ?_
            repeat (go_big_quiet_step (first | (go_at_call 52; with_reducible exact nt_26 _ _) | (go_at_call 52; with_reducible exact nt_33 _ _) | (go_at_call 68; exact nt_18 _ _) | (go_at_call 52; exact nt_26 _ _) | (go_at_call 52; exact nt_33 _ _)))
            refine wpQuiet_nil ?_
            intro Y6 hY6
            replace hY6 := below_class hY6
            clear nt_18 nt_26 nt_33
            replace ct_11_0__177 := Hct_11_0__177.out
            clear Hct_11_0__177
            replace ct_11_1__178 := Hct_11_1__178.out
            clear Hct_11_1__178
            replace ct_11_2__179 := Hct_11_2__179.out
            clear Hct_11_2__179
            replace ct_11_3__180 := Hct_11_3__180.out
            clear Hct_11_3__180
            replace ke_13_0 := Hke_13_0.out
            clear Hke_13_0
            replace ke_13_1 := Hke_13_1.out
            clear Hke_13_1
            replace ke_13_2 := Hke_13_2.out
            clear Hke_13_2
            replace ke_13_3 := Hke_13_3.out
            clear Hke_13_3
            replace ct_31_0 := Hct_31_0.out
            clear Hct_31_0
            replace ct_31_1 := Hct_31_1.out
            clear Hct_31_1
            replace ct_31_2 := Hct_31_2.out
            clear Hct_31_2
            replace ct_31_3 := Hct_31_3.out
            clear Hct_31_3
            have HBY6 := Lib.hid (Below.step HBw_e_13.out hY6)
            replace ct_11_0__177 := cell_below hY6 ct_11_0__177
            replace ct_11_1__178 := cell_below hY6 ct_11_1__178
            replace ct_11_2__179 := cell_below hY6 ct_11_2__179
            replace ct_11_3__180 := cell_below hY6 ct_11_3__180
            replace ke_13_0 := cell_below hY6 ke_13_0
            replace ke_13_1 := cell_below hY6 ke_13_1
            replace ke_13_2 := cell_below hY6 ke_13_2
            replace ke_13_3 := cell_below hY6 ke_13_3
            replace ct_31_0 := cell_below hY6 ct_31_0
            replace ct_31_1 := cell_below hY6 ct_31_1
            replace ct_31_2 := cell_below hY6 ct_31_2
            replace ct_31_3 := cell_below hY6 ct_31_3
            clear hY6
            cases t_34 with
            | false =>
              replace H := ite_f H
              replace H := app_hid H
              go_wp2_with fail
              go_roundg m0
              case measure => omega
              case rel => exact ⟨k0 + 1, by omega, by go_num, H, HBY6⟩
            | true =>
              replace H := ite_t H
              obtain rfl := ret_hid H
              go_wp2_with fail
              go_ret
              exact ⟨rfl, HBY6.out⟩
  | true =>
    replace H := ite_t H
    obtain rfl := ret_hid H
    go_wp2_with fail
    go_ret
    exact ⟨rfl, HB.out⟩
end Go.Proofs.YtpcdaoeijlifmaaDoor.GiAreByIdCombiIsCombiIdOfComb

/- loop.example/g01062/impl.AreCombs as a plain function, and the contract of the program's: where the plain one has an answer, the program has it. Conditions: slices read as lists. -/
namespace Go.Proofs.YtpcdaoeijlifmaaDoor.GiAreCombs
set_option linter.unusedVariables false
set_option linter.unusedSimpArgs false
open Go.RowKit
open Go.Proofs.YtpcdaoeijlifmaaDoor.Rowed Go.Proofs.YtpcdaoeijlifmaaDoor.Turn Go.Proofs.YtpcdaoeijlifmaaDoor.Aid Go.Proofs.YtpcdaoeijlifmaaDoor.GoP Go.Proofs.YtpcdaoeijlifmaaDoor.GoM

def P (list : (List Go.Proofs.YtpcdaoeijlifmaaDoor.PComb.Comb)) : Option (Bool) :=
  Option.bind (Go.Proofs.YtpcdaoeijlifmaaDoor.GiAreByIdCombiIsCombiIdOfComb.P list 10) fun (t_2 : Bool) =>
  some t_2

set_option maxRecDepth 100000 in
set_option maxHeartbeats 2000000 in
theorem C (list : (List Go.Proofs.YtpcdaoeijlifmaaDoor.PComb.Comb)) (A0 : Option Addr) (c0 : Nat)  (w : World) (M0 : Hid (Cells w 4 A0 list.length (Go.Proofs.YtpcdaoeijlifmaaDoor.PComb.flat list))) (N0 : Hid (list.length ≤ 9223372036854775807))  {r : Bool} (H : Hid (P list = some r)) :
    Calls Tryd.prog 29 #[.slice A0 list.length c0] w (Gives (.bool r) w) := by
  have HB := Lib.hid (Below.refl w.heap.size w)
  unfold P at H
  have N0o := N0.out
  go_enter Tryd.func29, Tryd.ntmps29
  replace H := bind_hid H
  obtain ⟨t_2, qt_2, H⟩ := H
  go_wp2_with fail
  go_at_call 72
  refine (Go.Proofs.YtpcdaoeijlifmaaDoor.GiAreByIdCombiIsCombiIdOfComb.C (list) (10) A0 c0 _   (Lib.hid (Cells.below M0.out HB.out)) N0 qt_2).mono ?_
  rintro e_t_2 wt_2 ⟨rfl, bt_2⟩
  have HBwt_2 := Lib.hid (Below.step HB.out bt_2)
  clear bt_2
  obtain rfl := ret_hid H
  go_wp2_with fail
  go_ret
  exact ⟨rfl, HBwt_2.out⟩
end Go.Proofs.YtpcdaoeijlifmaaDoor.GiAreCombs

/- loop.example/g01062/impl.isMeasured as a plain function, and the contract of the program's: where the plain one has an answer, the program has it. Conditions: slices read as lists. -/
namespace Go.Proofs.YtpcdaoeijlifmaaDoor.GiIsMeasured
set_option linter.unusedVariables false
set_option linter.unusedSimpArgs false
open Go.RowKit
open Go.Proofs.YtpcdaoeijlifmaaDoor.Rowed Go.Proofs.YtpcdaoeijlifmaaDoor.Turn Go.Proofs.YtpcdaoeijlifmaaDoor.Aid Go.Proofs.YtpcdaoeijlifmaaDoor.GoP Go.Proofs.YtpcdaoeijlifmaaDoor.GoM

def P (gauge : Int) : Option (Bool) :=
  letK (gauge == 0) fun (t_2 : Bool) =>
  joinK (fun (t_6 : Bool) =>
  some t_6) fun jt_6 => iteK t_2 (appK jt_6 true) (Option.bind (Go.Proofs.YtpcdaoeijlifmaaDoor.GiIsGauge.P gauge) fun (t_5 : Bool) =>
  appK jt_6 t_5)

set_option maxRecDepth 100000 in
set_option maxHeartbeats 2000000 in
theorem C (gauge : Int)   (w : World)   {r : Bool} (H : Hid (P gauge = some r)) :
    Calls Tryd.prog 91 #[.int .i64 gauge] w (Gives (.bool r) w) := by
  have HB := Lib.hid (Below.refl w.heap.size w)
  unfold P at H
  go_enter Tryd.func91, Tryd.ntmps91
  replace H := let_hid H
  obtain ⟨t_2, ht_2, H⟩ := H
  replace H := join_hid H
  cases t_2 with
  | false =>
    replace H := ite_f H
    replace H := bind_hid H
    obtain ⟨t_5, qt_5, H⟩ := H
    go_wp2_with fail
    go_at_call 61
    refine (Go.Proofs.YtpcdaoeijlifmaaDoor.GiIsGauge.C (gauge)  _    qt_5).mono ?_
    rintro e_t_5 wt_5 ⟨rfl, bt_5⟩
    have HBwt_5 := Lib.hid (Below.step HB.out bt_5)
    clear bt_5
    replace H := app_hid H
    obtain rfl := ret_hid H
    go_wp2_with fail
    go_ret
    exact ⟨rfl, HBwt_5.out⟩
  | true =>
    replace H := ite_t H
    replace H := app_hid H
    obtain rfl := ret_hid H
    go_wp2_with fail
    go_ret
    exact ⟨rfl, HB.out⟩
end Go.Proofs.YtpcdaoeijlifmaaDoor.GiIsMeasured

