/- Words for a list of ints that is built by appends into memory of its own, and for the answer '([]int, bool)'. No condition. -/
import Derived.Test.YtdgbigkcophjoaaHelpInt
namespace Go.Proofs.Ytdgbigkcophjoaa.OutInt
set_option linter.unusedVariables false
open Go.RowKit
open Go.Proofs.Ytdgbigkcophjoaa.Rowed Go.Proofs.Ytdgbigkcophjoaa.HelpInt

/-- 'A' holds the list r in memory that was not there in w; nothing that was there has turned -/
structure Keeps (w : World) (A : Option Addr) (c : Nat) (r : List Int) (wr : World) : Prop where
  own : wr.ownsRow w.heap.size 3 1 (.slice A r.length c) r.length (iv r)
  bel : Below w.heap.size w wr
theorem Keeps.start {w wr : World} (hb : Below w.heap.size w wr) : Keeps w (some ⟨wr.heap.size, 0, none⟩) 0 [] (wr.alloc (.cells #[] 3)) :=
  ⟨⟨rfl, .inr ⟨wr.heap.size, 0, #[], rfl, hb.size, heap_alloc_new wr _, Nat.le_refl _, by unfold maxLen; omega, rfl, rfl⟩⟩, hb.alloc hb.size _⟩
theorem Keeps.next {w wr w1 : World} {A : Option Addr} {c : Nat} {r : List Int} (h : Keeps w A c r wr) (hb : Below wr.heap.size wr w1) : Keeps w A c r w1 :=
  ⟨own_below h.own hb, Below.step h.bel hb⟩
theorem Keeps.alloc {w wr : World} {A : Option Addr} {c : Nat} {r : List Int} (h : Keeps w A c r wr) (o : Obj) : Keeps w A c r (wr.alloc o) := h.next ((Below.refl _ _).alloc (Nat.le_refl _) o)
theorem Keeps.push {w wX w3 : World} {A : Option Addr} {c : Nat} {r : List Int} {v' : Value} {x : Int} (h : Keeps w A c r wX)
    (hown : w3.ownsRow w.heap.size 3 1 v' (r.length + 1) (iv r ++ [.int .i64 x])) (hg : wX.grownBy w3 (Value.slice A r.length c).ownBlock) :
    ∃ g cap, v' = .slice (some ⟨g, 0, none⟩) (r ++ [x]).length cap ∧ Keeps w (some ⟨g, 0, none⟩) cap (r ++ [x]) w3 := by
  have el : (r ++ [x]).length = r.length + 1 := by simp
  obtain ⟨g, cap, rfl⟩ : ∃ g cap, v' = .slice (some ⟨g, 0, none⟩) (r.length + 1) cap := by
    rcases hown.2 with ⟨_, h⟩ | ⟨g3, cap3, _, h, _⟩
    · omega
    · exact ⟨g3, cap3, h⟩
  refine ⟨g, cap, by rw [el], ?_, ?_⟩
  · rw [el, iv_snoc]; exact hown
  · exact h.bel.grown hg h.bel.size (fun q hq => (h.own.lt q hq).1)
theorem own_lower {w : World} {b base n size : Nat} {v : Value} {e : TypeId} {xs : List Value} (h : w.ownsRow base e size v n xs) (hb : b ≤ base) : w.ownsRow b e size v n xs :=
  ⟨h.1, by
    rcases h.2 with h0 | ⟨g, cap, cur, hv, hb', rest⟩
    · exact .inl h0
    · exact .inr ⟨g, cap, cur, hv, Nat.le_trans hb hb', rest⟩⟩
theorem Keeps.lower {w w2 wr : World} {A : Option Addr} {c : Nat} {r : List Int} (h : Keeps w2 A c r wr) (hb : Below w.heap.size w w2) : Keeps w A c r wr :=
  ⟨own_lower h.own hb.size, Below.step hb h.bel⟩
theorem infoI : (Try.prog.info? 3).map (fun i => (i.zero, i.size, i.bytes)) = some (some (.int .i64 0), 1, 8) := by kernel_rfl
theorem info_parts {P : Program} {T : TypeId} {z : Value} {s b : Nat} (h : (P.info? T).map (fun i => (i.zero, i.size, i.bytes)) = some (some z, s, b)) : ∃ i, P.info? T = some i ∧ i.zero = some z ∧ i.size = s ∧ i.bytes = b := by
  cases hi : P.info? T with
  | none => rw [hi] at h; simp at h
  | some i => rw [hi] at h; simp at h; exact ⟨i, rfl, h.1, h.2.1, h.2.2⟩
theorem cell_one_at {w : World} {v : Value} {e : TypeId} {g : Nat} (hg : g = w.heap.size) : ∀ j u, [v][j]? = some u → (w.alloc (.cells #[v] e)).cell? ((⟨g, 0, none⟩ : Addr).add j) = some u := fun j u hj => by
  subst hg; exact cell_one_new w v e j u hj

/-- the answer: a list in memory of its own, and whether it is one -/
def OutPost : List Int × Bool → World → Ending → World → Prop
  | (r, b), w, e, w' => ∃ A c, e = .returned (.tuple #[.slice A r.length c, .bool b]) ∧ Keeps w A c r w'
/-- the answer with a number -/
def OutNPost : List Int × Int × Bool → World → Ending → World → Prop
  | (r, n, b), w, e, w' => ∃ A c, e = .returned (.tuple #[.slice A r.length c, .int .i64 n, .bool b]) ∧ Keeps w A c r w'
end Go.Proofs.Ytdgbigkcophjoaa.OutInt
