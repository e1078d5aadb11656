/- How a stamp, and a slice of stamps, that comes in as data is opened: a record of four ints; a list of them. No condition. -/
import Derived.Test.YtdgbigkcophjoaaChecked
import Derived.Test.YtdgbigkcophjoaaRow
import Derived.Test.YtdgbigkcophjoaaPlainStamp
import Derived.Lib.SmallJoins
import Derived.Deep.Slices
import Derived.Deep.Fields
import Derived.ChangeSame
namespace Go.Proofs.Ytdgbigkcophjoaa.OpenStamp
set_option linter.unusedVariables false
set_option maxRecDepth 100000
open Go.Joins Go.ChangeShapes Go.WideShapes Go.RowKit Go.Deep
open Go.Proofs.Ytdgbigkcophjoaa.Rowed Go.Proofs.Ytdgbigkcophjoaa.PlainStamp

/-- a slice of stamps that came in: the list that it reads as -/
structure Came (w : World) (A : Option Addr) (len cap : Nat) (l : List St) : Prop where
  cells : Cells w 4 A len (flat l)
  small : len ≤ maxLen
  fits : ∀ s ∈ l, s.fits
theorem Came.len {w : World} {A : Option Addr} {len cap : Nat} {l : List St} (h : Came w A len cap l) : l.length = len := by
  have := h.cells.1
  rw [flat_len] at this; omega

section
variable {H : Type} {enc : TypeId × Value → H} {w : World} {base : Nat} {spare : Nat → Bool} {held : Bool}

theorem read_one {n : Nat} {cs : List Value} {x : DataW H × List MemPlace} (h : DataW.trod enc Try.prog w base spare held n 75 cs = some x) : ∃ s : St, cs = s.cells ∧ s.fits := by
  obtain ⟨y0, y1, y2, y3, m, _, hl, h0, h1, h2, h3⟩ := trod_struct4 Try.underlying75 h
  have c1 : Try.prog.cellsOf 3 = 1 := by kernel_rfl
  have c4 : Try.prog.cellsOf 75 = 4 := by kernel_rfl
  rw [c4] at hl
  match cs, hl with
  | [v0, v1, v2, v3], _ =>
    simp only [c1, List.drop, List.take] at h0 h1 h2 h3
    obtain ⟨a, e0, _, f0⟩ := DataW.trod_int Try.underlying3 h0
    obtain ⟨b, e1, _, f1⟩ := DataW.trod_int Try.underlying3 h1
    obtain ⟨c, e2, _, f2⟩ := DataW.trod_int Try.underlying3 h2
    obtain ⟨d, e3, _, f3⟩ := DataW.trod_int Try.underlying3 h3
    simp at e0 e1 e2 e3
    subst e0 e1 e2 e3
    exact ⟨⟨a, b, c, d⟩, rfl, f0, f1, f2, f3⟩
theorem open_stamp {r : Reach} {b0 : Nat} {v : Value} {d : DataW H} {p : List MemPlace} (hv : Value.okWide Try.prog w r b0 75 v) (h : DataW.Trod enc Try.prog w base spare held 75 v d p) :
    ∃ s : St, v = s.val ∧ s.fits := by
  obtain ⟨v0, v1, v2, v3, y0, y1, y2, y3, n, rfl, _, _, h0, h1, h2, h3⟩ := open_agg4 Try.underlying75 (by kernel_rfl) (by kernel_rfl) hv h
  obtain ⟨a, e0, _, f0⟩ := DataW.trod_int Try.underlying3 h0
  obtain ⟨b, e1, _, f1⟩ := DataW.trod_int Try.underlying3 h1
  obtain ⟨c, e2, _, f2⟩ := DataW.trod_int Try.underlying3 h2
  obtain ⟨d, e3, _, f3⟩ := DataW.trod_int Try.underlying3 h3
  simp at e0 e1 e2 e3
  subst e0 e1 e2 e3
  exact ⟨⟨a, b, c, d⟩, rfl, f0, f1, f2, f3⟩
end

/-- a list by its members -/
theorem list_of {α : Type} (p : Nat → α → Prop) : ∀ (n : Nat), (∀ k, k < n → ∃ a, p k a) → ∃ l : List α, l.length = n ∧ ∀ k a, l[k]? = some a → p k a
  | 0, _ => ⟨[], rfl, fun k a h => by simp at h⟩
  | n + 1, h => by
    obtain ⟨l, hl, hp⟩ := list_of p n (fun k hk => h k (by omega))
    obtain ⟨a, ha⟩ := h n (by omega)
    refine ⟨l ++ [a], by simp [hl], fun k b hb => ?_⟩
    by_cases hk : k < n
    · rw [List.getElem?_append_left (by omega)] at hb; exact hp k b hb
    · have hk' : k < (l ++ [a]).length := (List.getElem?_eq_some_iff.1 hb).1
      simp [hl] at hk'
      obtain rfl : k = n := by omega
      rw [List.getElem?_append_right (by omega), hl, Nat.sub_self] at hb
      obtain rfl : a = b := by simpa using hb
      exact ha

theorem open_stamps {H : Type} {enc : TypeId × Value → H} {W : World} {a : Option Addr} {len cap : Nat} {d : DataW H} {p : List MemPlace}
    (h : DataW.Trod enc Try.prog W 0 (fun _ => true) true 22 (.slice a len cap) d p) : ∃ l : List St, Came W a len cap l := by
  obtain ⟨fuel, hf⟩ := h
  have c4 : Try.prog.cellsOf 75 = 4 := by kernel_rfl
  rcases open_slice Try.underlying22 hf with ⟨hcs, _⟩ | ⟨x, ln, cp, m, n, D, Pl, hcs, hb, hl, hm, hmm, _, hi⟩
  · simp [Value.cells] at hcs
    obtain ⟨rfl, rfl, rfl⟩ := hcs
    exact ⟨[], Cells.nil_ _ _ _, by unfold maxLen; omega, by intro s hs; simp at hs⟩
  · simp [Value.cells] at hcs
    obtain ⟨rfl, rfl, rfl⟩ := hcs
    simp only [if_true] at hmm
    subst hmm
    rw [c4] at hi
    obtain ⟨l, hll, hp⟩ := list_of (fun k s => St.fits s ∧ ∀ j, j < 4 → W.cell? (x.add (k * 4 + j)) = s.cells[j]?) len (fun k hk => by
      obtain ⟨cs', hc, ht⟩ := hi k (by omega)
      obtain ⟨s, rfl, hfit⟩ := read_one ht
      refine ⟨s, hfit, fun j hj => ?_⟩
      have := (World.cells?_some hc).2.2 j hj
      rw [Go.Deep.add_add] at this
      exact this)
    refine ⟨l, ⟨by rw [flat_len, hll], fun h0 => ⟨x, rfl, fun j u hu => ?_⟩⟩, by omega, fun s hs => ?_⟩
    · have hj : j < (flat l).length := (List.getElem?_eq_some_iff.1 hu).1
      rw [flat_len] at hj
      have hk : j / 4 < l.length := by omega
      have e := flat_at l (j / 4) l[j/4] (List.getElem?_eq_getElem hk) (j % 4) (by omega)
      rw [show j / 4 * 4 + j % 4 = j by omega, hu] at e
      have := (hp (j / 4) l[j/4] (List.getElem?_eq_getElem hk)).2 (j % 4) (by omega)
      rw [show j / 4 * 4 + j % 4 = j by omega, ← e] at this
      exact this
    · obtain ⟨k, hk⟩ := List.getElem?_of_mem hs
      exact (hp k s hk).1
/-- a record that was boxed -/
theorem add_none (b o n : Nat) : (⟨b, o, none⟩ : Addr).add n = ⟨b, o + n, none⟩ := by
  unfold Addr.add; split
  · rename_i h; subst h; rfl
  · rfl
theorem box_ {w : World} {s : St} {g : Nat} (h : Cells w 4 (some ⟨g, 0, none⟩) 1 s.cells) : w.cell? ⟨g, 0, none⟩ = some (.int .i64 s.id) ∧ w.cell? ⟨g, 1, none⟩ = some (.int .i64 s.face) ∧ w.cell? ⟨g, 2, none⟩ = some (.int .i64 s.color) ∧ w.cell? ⟨g, 3, none⟩ = some (.int .i64 s.year) := by
  obtain ⟨ad, e, hc⟩ := h.2 (by simp [St.cells])
  obtain rfl := Option.some.inj e
  have gg := fun j u hu => add_none g 0 j ▸ hc j u hu
  exact ⟨by simpa using gg 0 _ rfl, by simpa using gg 1 _ rfl, by simpa using gg 2 _ rfl, by simpa using gg 3 _ rfl⟩
theorem box_new (w : World) (s : St) (T : TypeId) : Cells (w.alloc (.cells #[.int .i64 s.id, .int .i64 s.face, .int .i64 s.color, .int .i64 s.year] T)) 4 (some ⟨w.heap.size, 0, none⟩) 1 s.cells :=
  ⟨by simp [St.cells], fun _ => ⟨_, rfl, fun j u hu => by
    have hj : j < 4 := by have := (List.getElem?_eq_some_iff.1 hu).1; simpa [St.cells] using this
    rw [add_none, World.cell?_alloc_new]
    match j, hj with
    | 0, _ => simpa [St.cells] using hu
    | 1, _ => simpa [St.cells] using hu
    | 2, _ => simpa [St.cells] using hu
    | 3, _ => simpa [St.cells] using hu⟩⟩
end Go.Proofs.Ytdgbigkcophjoaa.OpenStamp
