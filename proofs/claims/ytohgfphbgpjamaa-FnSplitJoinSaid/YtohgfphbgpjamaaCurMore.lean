/- The contracts of the drawing cursor's methods one, of, among and any1. Conditions: as for next and pick; the list that 'of' or 'among' draws from is not empty and does not lie in the cursor. -/
import Derived.Test.YtohgfphbgpjamaaCur
namespace Go.Proofs.Ytohgfphbgpjamaa.CurMore
set_option linter.unusedVariables false
open Go.RowKit
open Go.Proofs.Ytohgfphbgpjamaa.Rowed Go.Proofs.Ytohgfphbgpjamaa.Cursor

def BoolPost (w : World) (g : Nat) (A : Option Addr) (n c m : Nat) (e : Ending) (w' : World) : Prop :=
  ∃ b : Bool, e = .returned (.bool b) ∧ Cur w' g A n c m ∧ w.grownBy w' (some g)
def StrPost (w : World) (g : Nat) (A : Option Addr) (n c m : Nat) (l : List ByteArray) (e : Ending) (w' : World) : Prop :=
  ∃ x : ByteArray, e = .returned (.string x) ∧ x ∈ l ∧ Cur w' g A n c m ∧ w.grownBy w' (some g)

theorem one_any (w : World) (B g : Nat) (A : Option Addr) (n c m : Nat) (p : Int) (hc : ByteCode w B A n) (hB : B ≤ g) (h : Cur w g A n c m) (hm : m < 4611686018427387900) (hn : n ≤ 9223372036854775807) (hp : 1 ≤ p) (hp2 : p ≤ 4611686018427387904) :
    Calls Try.prog 29 #[.pointer (some ⟨g, 0, none⟩), .int .i64 p] w (BoolPost w g A n c (m + 2)) := by
  have HC := Lib.hid hc
  have HU := Lib.hid h
  clear hc h
  go_enter Try.func29, Try.ntmps29
  go_wp2_with fail
  go_at_call 28
  refine (pick_any w B g A n c m p HC.out hB HU.out hm hn hp hp2).mono ?_
  rintro e w1 ⟨x, rfl, h0, h1, hU1, hG1⟩
  have U1 := Lib.hid hU1
  have G1 := Lib.hid hG1
  clear hU1 hG1
  go_wp2_with fail
  go_ret
  exact ⟨_, rfl, U1.out, G1.out⟩

theorem of_any (w : World) (B g : Nat) (A A2 : Option Addr) (n c m k c2 : Nat) (l : List ByteArray) (hc : ByteCode w B A n) (hB : B ≤ g) (h : Cur w g A n c m) (hm : m < 4611686018427387900) (hn : n ≤ 9223372036854775807)
    (hl : Strs w A2 k l) (hk : 1 ≤ k) (hk2 : k ≤ 1048576) (hne : ∀ ad, A2 = some ad → ad.block ≠ g) :
    Calls Try.prog 26 #[.pointer (some ⟨g, 0, none⟩), .slice A2 k c2] w (StrPost w g A n c (m + 2) l) := by
  have HC := Lib.hid hc
  have HU := Lib.hid h
  have HL := Lib.hid hl
  have HN := Lib.hid hne
  clear hc h hl hne
  go_enter Try.func26, Try.ntmps26
  go_wp2_with fail
  go_at_call 28
  refine (pick_any w B g A n c m k HC.out hB HU.out hm hn (by omega) (by omega)).mono ?_
  rintro e w1 ⟨x, rfl, h0, h1, hU1, hG1⟩
  obtain ⟨i, rfl⟩ : ∃ i : Nat, x = i := ⟨x.toNat, by omega⟩
  obtain ⟨ad, s, rfl, hs, hcell0⟩ := HL.out.at_ (k := i) (by omega)
  have hcell : w1.cell? (ad.add i) = some (.string s) := hG1.cell hcell0 (by rw [add_block]; intro e; injection e with e; exact HN.out ad rfl e)
  have HS := Lib.hid (List.mem_of_getElem? hs)
  have U1 := Lib.hid hU1
  have G1 := Lib.hid hG1
  clear hU1 hG1 hs hcell0
  go_wp2_with fail
  go_ret
  exact ⟨_, rfl, HS.out, U1.out, G1.out⟩

def anyL : List ByteArray := [⟨#[]⟩, ⟨#[97]⟩, ⟨#[97, 44, 98]⟩, ⟨#[115, 111, 109, 101, 32, 119, 111, 114, 100, 115]⟩, ⟨#[120, 35, 121]⟩, ⟨#[45, 49, 50]⟩, ⟨#[0, 255]⟩, ⟨#[44, 44]⟩, ⟨#[48]⟩]

/-- a literal's new row -/
theorem lit_strs (w : World) (t : TypeId) (l : List ByteArray) : Strs (w.alloc (.cells (l.map Value.string).toArray t)) (some ⟨w.heap.size, 0, none⟩) l.length l := by
  refine ⟨by simp, fun _ => ⟨_, rfl, fun j u hu => ?_⟩⟩
  have hh : (w.alloc (.cells (l.map Value.string).toArray t)).heap[w.heap.size]? = some (.cells (l.map Value.string).toArray t) := heap_alloc_new w _
  have e : (⟨w.heap.size, 0, none⟩ : Addr).add j = ⟨w.heap.size, j, none⟩ := by
    unfold Addr.add
    by_cases hj : j = 0
    · subst hj; simp
    · simp [hj]
  rw [e]
  simp only [World.cell?, hh]
  simpa using hu
theorem lit_cells (w : World) (t : TypeId) (xs : List Value) : Cells (w.alloc (.cells xs.toArray t)) 1 (some ⟨w.heap.size, 0, none⟩) xs.length xs := by
  refine ⟨by simp, fun _ => ⟨_, rfl, fun j u hu => ?_⟩⟩
  have hh : (w.alloc (.cells xs.toArray t)).heap[w.heap.size]? = some (.cells xs.toArray t) := heap_alloc_new w _
  have e : (⟨w.heap.size, 0, none⟩ : Addr).add j = ⟨w.heap.size, j, none⟩ := by
    unfold Addr.add
    by_cases hj : j = 0
    · subst hj; simp
    · simp [hj]
  rw [e]
  simp only [World.cell?, hh]
  simpa using hu
/-- the cursor that a draw begins with -/
theorem start_cur (w : World) (A : Option Addr) (n c : Nat) : Cur (w.alloc (.cells #[.slice A n c, .int .i64 0, .int .u64 0] 44)) w.heap.size A n c 0 :=
  ⟨0, 0, Nat.le_refl _, heap_alloc_new w _⟩
theorem ByteCode.below {w w' : World} {B n : Nat} {A : Option Addr} (h : ByteCode w B A n) (hb : Below w.heap.size w w') : ByteCode w' B A n :=
  fun i hi => let ⟨ad, z, e, hbl, hc, h0, h1⟩ := h i hi; ⟨ad, z, e, hbl, cell_below hb hc, h0, h1⟩
theorem Cur.below {w w' : World} {g n c m : Nat} {A : Option Addr} (h : Cur w g A n c m) (hb : Below w.heap.size w w') : Cur w' g A n c m := by
  obtain ⟨k, s, hk, hh⟩ := h
  exact ⟨k, s, hk, by rw [hb.block g (Array.getElem?_eq_some_iff.1 hh).1]; exact hh⟩
theorem grown_alloc {w w' : World} {r : Option Nat} {o : Obj} (h : (w.alloc o).grownBy w' r) : w.grownBy w' r := grown_trans (World.grownBy_alloc w o r) h
theorem below_alloc (w : World) (o : Obj) : Below w.heap.size w (w.alloc o) := (Below.refl _ _).alloc (Nat.le_refl _) o

theorem any1_any (w : World) (B g : Nat) (A : Option Addr) (n c m : Nat) (hc : ByteCode w B A n) (hB : B ≤ g) (h : Cur w g A n c m) (hm : m < 4611686018427387900) (hn : n ≤ 9223372036854775807) :
    Calls Try.prog 25 #[.pointer (some ⟨g, 0, none⟩)] w (StrPost w g A n c (m + 2) anyL) := by
  have hlt : g < w.heap.size := by obtain ⟨_, _, _, hh⟩ := h; exact (Array.getElem?_eq_some_iff.1 hh).1
  have HC := Lib.hid (ByteCode.below hc (below_alloc w (.cells (anyL.map Value.string).toArray 9)))
  have HU := Lib.hid (Cur.below h (below_alloc w (.cells (anyL.map Value.string).toArray 9)))
  have HL := Lib.hid (lit_strs w 9 anyL)
  clear hc h
  go_enter Try.func25, Try.ntmps25
  go_wp2_with fail
  go_at_call 26
  refine (of_any (w.alloc (.cells (anyL.map Value.string).toArray 9)) B g A _ n c m 9 9 anyL HC.out hB HU.out hm hn HL.out (by omega) (by omega) (by intro ad e; injection e with e; subst e; show w.heap.size ≠ g; omega)).mono ?_
  rintro e w1 ⟨x, rfl, hx, hU1, hG1⟩
  have HX := Lib.hid hx
  have U1 := Lib.hid hU1
  have G1 := Lib.hid (grown_alloc hG1)
  clear hU1 hG1 hx
  go_wp2_with fail
  go_ret
  exact ⟨_, rfl, HX.out, U1.out, G1.out⟩
end Go.Proofs.Ytohgfphbgpjamaa.CurMore
