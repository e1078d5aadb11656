/- Words for a table beside a list of ints that grows by appends: neither turns the other. No condition. -/
import Derived.Test.YtmbfekfpahlmfaaTable
import Derived.Test.YtmbfekfpahlmfaaOutInt
import Derived.Maps.AppendAt
namespace Go.Proofs.Ytmbfekfpahlmfaa.TableOut
set_option linter.unusedVariables false
open Go.RowKit
open Go.Proofs.Ytmbfekfpahlmfaa.Rowed Go.Proofs.Ytmbfekfpahlmfaa.HelpInt Go.Proofs.Ytmbfekfpahlmfaa.Table Go.Proofs.Ytmbfekfpahlmfaa.OutInt

structure Both (E : TypeId) (w : World) (g m : Nat) (T : Nat → Value) (v : Nat) (A : Option Addr) (c : Nat) (r : List Int) (wr : World) : Prop where
  out : Keeps w A c r wr
  tab : TabRow E w g m T v wr
  ne : (Value.slice A r.length c).ownBlock ≠ some g
structure BothIn (E : TypeId) (w : World) (g m : Nat) (T : Nat → Value) (v : Nat) (t : Value) (A : Option Addr) (c : Nat) (r : List Int) (wr : World) : Prop where
  out : Keeps w A c r wr
  tab : TabIn E w g m T v t wr
  ne : (Value.slice A r.length c).ownBlock ≠ some g
section
variable {E : TypeId} {w wr : World} {g m v : Nat} {T : Nat → Value} {t : Value} {A : Option Addr} {c : Nat} {r : List Int}
theorem keeps_grown {w1 : World} {q : Nat} (h : Keeps w A c r wr) (hg : wr.grownBy w1 (some q)) (hne : (Value.slice A r.length c).ownBlock ≠ some q) (hq : w.heap.size ≤ q) : Keeps w A c r w1 :=
  ⟨own_grown h.own hg (fun b hb e => hne (by rw [hb, e])), h.bel.grown hg h.bel.size (by intro k e; injection e with e; omega)⟩
theorem Both.store (h : Both E w g m T v A c r wr) (hv : v < m) (t : Value) : BothIn E w g m T v t A c r (wr.setCell ⟨g, v, none⟩ t) := by
  obtain ⟨xs, hO, _⟩ := h.tab.row
  exact ⟨keeps_grown h.out (hO.stored v t).2 h.ne (hO.lt g rfl).1, h.tab.store hv t, h.ne⟩
theorem BothIn.store (h : BothIn E w g m T v t A c r wr) (hv : v < m) (t' : Value) : BothIn E w g m T v t' A c r (wr.setCell ⟨g, v, none⟩ t') := by
  obtain ⟨xs, hO, _⟩ := h.tab.row
  exact ⟨keeps_grown h.out (hO.stored v t').2 h.ne (hO.lt g rfl).1, h.tab.store hv t', h.ne⟩
theorem BothIn.next {w1 : World} (h : BothIn E w g m T v t A c r wr) (hb : Below wr.heap.size wr w1) : BothIn E w g m T v t A c r w1 := ⟨h.out.next hb, h.tab.next hb, h.ne⟩
theorem Both.next {w1 : World} (h : Both E w g m T v A c r wr) (hb : Below wr.heap.size wr w1) : Both E w g m T v A c r w1 := ⟨h.out.next hb, h.tab.next hb, h.ne⟩
theorem BothIn.done (h : BothIn E w g m T v t A c r wr) (ht : t = T v) : Both E w g m T (v + 1) A c r wr := ⟨h.out, h.tab.done ht, h.ne⟩
theorem Both.set (h : Both E w g m T m A c r wr) {q : Nat} (hq : q < m) (t : Value) : Both E w g m (fun u => if u = q then t else T u) m A c r (wr.setCell ⟨g, q, none⟩ t) := by
  obtain ⟨xs, hO, _⟩ := h.tab.row
  exact ⟨keeps_grown h.out (hO.stored q t).2 h.ne (hO.lt g rfl).1, h.tab.set hq t, h.ne⟩
theorem Both.congr {T' : Nat → Value} (h : Both E w g m T v A c r wr) (he : ∀ u, u < v → T u = T' u) : Both E w g m T' v A c r wr := ⟨h.out, h.tab.congr he, h.ne⟩
theorem Both.push {w3 : World} {o : Obj} {v' : Value} {x : Int} (h : Both E w g m T v A c r wr)
    (hown : w3.ownsRow w.heap.size 3 1 v' (r.length + 1) (iv r ++ [.int .i64 x])) (hg : (wr.alloc o).grownBy w3 (Value.slice A r.length c).ownBlock)
    (hat : v'.ownBlock = (Value.slice A r.length c).ownBlock ∨ v'.ownBlock = some (wr.alloc o).heap.size) :
    ∃ g' cap, v' = .slice (some ⟨g', 0, none⟩) (r ++ [x]).length cap ∧ Both E w g m T v (some ⟨g', 0, none⟩) cap (r ++ [x]) w3 := by
  obtain ⟨g', cap, rfl, hK⟩ := Keeps.push (h.out.alloc o) hown hg
  have hX := h.tab.next ((Below.refl wr.heap.size wr).alloc (Nat.le_refl _) o)
  obtain ⟨xs, hO, hx⟩ := hX.row
  refine ⟨g', cap, rfl, hK, ⟨⟨xs, own_grown hO hg (fun b hb e => ?_), hx⟩, hK.bel⟩, fun e => ?_⟩
  · rw [show (Value.slice (some ⟨g, 0, none⟩) m m).ownBlock = some g from rfl] at hb
    injection hb with hb; subst hb; exact h.ne e
  · rcases hat with hat | hat
    · exact h.ne (hat ▸ e)
    · obtain ⟨ys, hO', _⟩ := h.tab.row
      have := (hO'.lt g rfl).2
      rw [show (Value.slice (some ⟨g', 0, none⟩) (r ++ [x]).length cap).ownBlock = some g' from rfl] at e hat
      rw [hat] at e
      injection e with e
      simp at e
      omega
end
end Go.Proofs.Ytmbfekfpahlmfaa.TableOut
