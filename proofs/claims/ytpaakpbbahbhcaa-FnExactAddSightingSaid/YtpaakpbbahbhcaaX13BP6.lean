/- Texts on which the proofs of several laws stand, one behind the other (6 of 6). No condition of their own. -/
import Derived.Test.YtpaakpbbahbhcaaX13BP5
import Derived.Test.YtpaakpbbahbhcaaX13BP1
import Derived.Test.YtpaakpbbahbhcaaX13BP3
import Derived.Test.YtpaakpbbahbhcaaX13BP2
import Derived.Test.YtpaakpbbahbhcaaX13BP4
import Derived.Test.YtpaakpbbahbhcaaChecked
import Derived.Lib.SmallJoins
import Derived.Deep.Slices
import Derived.Deep.Fields
import Derived.ChangeSame
import Derived.SliceStrings
import Derived.ChangeSlices
/- Chapter 13: censuses: the plain functions of the program and of the reference agree, and the laws answer true. (Q13One) No condition but those of each theorem. -/
namespace Go.Proofs.Ytpaakpbbahbhcaa.Q13One
set_option linter.unusedVariables false
set_option linter.unusedSimpArgs false
open Go.RowKit
open Go.Proofs.Ytpaakpbbahbhcaa.GoP Go.Proofs.Ytpaakpbbahbhcaa.PlainStamp Go.Proofs.Ytpaakpbbahbhcaa.QBase Go.Proofs.Ytpaakpbbahbhcaa.Q1Rise Go.Proofs.Ytpaakpbbahbhcaa.QUp Go.Proofs.Ytpaakpbbahbhcaa.QLoop Go.Proofs.Ytpaakpbbahbhcaa.QWord Go.Proofs.Ytpaakpbbahbhcaa.PSighting

/-- what a machine can hold -/
def sz13 (s : Sighting) : Prop := s.town.size ≤ 9223372036854775807 ∧ s.traits.length ≤ 9223372036854775807
def trB (l : List Int) : Bool := decide (l.length ≤ 8) && rise 1 50 l
theorem isTrait_eq (n : Int) : GiIsTrait.P n = some (inB n 1 50) := by simp only [GiIsTrait.P, within_eq, Option.bind_some]
theorem areTraits_eq (l : List Int) : GiAreTraits.P l = some (trB l) := by
  simp only [GiAreTraits.P, GiAreByKeyIntIntiIsTraitiAreTraits1.P, letK, iteK_if]
  by_cases hl : l.length ≤ 8
  · rw [if_neg (by simp; omega), up_loop (ok := fun n => inB n 1 50) (id := fun n => n) (no := false)]
    · unfold trB rise; cases upTo (fun n => inB n 1 50) (fun n => n) l l.length <;> simp [hl, GiAreByKeyIntIntiIsTraitiAreTraits1.e0]
    · intro k nx s hs
      have hi : idx l (k : Int) = some s := by rw [idx_nat, hs]
      have hk : k < l.length := (List.getElem?_eq_some_iff.1 hs).1
      simp only [GiAreByKeyIntIntiIsTraitiAreTraits1.l0, hi, Option.bind_some, isTrait_eq, GiAreTraits1.P, letK, joinK, appK, iteK_if]
      refine ⟨fun h => by simp [h], fun h => ⟨fun h0 => by subst h0; simp [h], fun h0 r hr => ?_⟩⟩
      rw [idx_pred h0 (by omega) hr]
      have hk0 : (0 : Int) < (k : Int) := by omega
      have hk1 : ¬ k = 0 := by omega
      exact ⟨fun hlt => by (have hc : ¬ s ≤ r := by omega); simp [h, hk0, hk1, hc], fun hge => by simp [h, hk0, hk1, hge]⟩
  · rw [if_pos (by simp; omega)]; unfold trB; simp [hl]
def okSi (x : Sighting) : Bool := inB x.id 1 999 && inB x.year 1840 2100 && wordB x.town && trB x.traits
theorem isSighting_eq (a b : Int) (c : ByteArray) (d : List Int) : GiIsSighting.P a b c d = some (okSi ⟨a, b, c, d⟩) := by
  simp only [GiIsSighting.P, within_eq, isWord_eq, areTraits_eq, Option.bind_some, letK, joinK, appK, iteK_if, okSi]
  cases inB a 1 999 <;> cases inB b 1840 2100 <;> cases wordB c <;> cases trB d <;> simp
theorem l13One_eq (a b : Int) (c : ByteArray) (d : List Int) (h : sz13 ⟨a, b, c, d⟩) : GsL13One.P a b c d = some (okSi ⟨a, b, c, d⟩) := by
  have h8 : decide ((d.length : Int) ≤ 8) = decide (d.length ≤ 8) := by rw [decide_eq_decide]; omega
  simp only [GsL13One.P, l1In_eq, l2Word_eq c h.1, rising_eq d 1 50 h.2, h8, Option.bind_some, letK, joinK, appK, iteK_if, okSi, trB]
  cases inB a 1 999 <;> cases inB b 1840 2100 <;> cases wordB c <;> cases decide (d.length ≤ 8) <;> cases rise 1 50 d <;> simp
theorem okSi_of {x : Sighting} (h : okSi x = true) : (1 ≤ x.id ∧ x.id ≤ 999) ∧ (1840 ≤ x.year ∧ x.year ≤ 2100) ∧ wordB x.town = true ∧ x.traits.length ≤ 8 ∧ rise 1 50 x.traits = true := by
  unfold okSi trB at h
  simp only [Bool.and_eq_true, decide_eq_true_eq] at h
  exact ⟨inB_of h.1.1.1, inB_of h.1.1.2, h.1.2, h.2.1, h.2.2⟩
end Go.Proofs.Ytpaakpbbahbhcaa.Q13One

/- Chapter 13: censuses: the plain functions of the program and of the reference agree, and the laws answer true. (Q13List) No condition but those of each theorem. -/
namespace Go.Proofs.Ytpaakpbbahbhcaa.Q13List
set_option linter.unusedVariables false
set_option linter.unusedSimpArgs false
open Go.RowKit
open Go.Proofs.Ytpaakpbbahbhcaa.GoP Go.Proofs.Ytpaakpbbahbhcaa.PlainStamp Go.Proofs.Ytpaakpbbahbhcaa.QBase Go.Proofs.Ytpaakpbbahbhcaa.Q13One Go.Proofs.Ytpaakpbbahbhcaa.QUp Go.Proofs.Ytpaakpbbahbhcaa.QLoop Go.Proofs.Ytpaakpbbahbhcaa.PSighting

def okSis (l : List Sighting) : Bool := upL 10 okSi Sighting.id l
theorem areSightings_eq (l : List Sighting) : GiAreSightings.P l = some (okSis l) := by
  simp only [GiAreSightings.P, GiAreByKeySightingIntiIsSightingiIdOfSighting.P, letK, iteK_if]
  by_cases hl : l.length ≤ 10
  · rw [if_neg (by simp; omega), up_loop (ok := okSi) (id := Sighting.id) (no := false)]
    · unfold okSis upL; cases upTo okSi Sighting.id l l.length <;> simp [hl, GiAreByKeySightingIntiIsSightingiIdOfSighting.e0]
    · intro k nx s hs
      have hi : idx l (k : Int) = some s := by rw [idx_nat, hs]
      have hk : k < l.length := (List.getElem?_eq_some_iff.1 hs).1
      simp only [GiAreByKeySightingIntiIsSightingiIdOfSighting.l0, hi, Option.bind_some, unSighting, GiIdOfSighting.P, isSighting_eq, letK, joinK, appK, iteK_if]
      refine ⟨fun h => by simp [h], fun h => ⟨fun h0 => by subst h0; simp [h], fun h0 r hr => ?_⟩⟩
      rw [idx_pred h0 (by omega) hr]
      have hk0 : (0 : Int) < (k : Int) := by omega
      have hk1 : ¬ k = 0 := by omega
      exact ⟨fun hlt => by (have hc : ¬ s.id ≤ r.id := by omega); simp [h, hk0, hk1, hc], fun hge => by simp [h, hk0, hk1, hge]⟩
  · rw [if_pos (by simp; omega)]; unfold okSis upL; simp [hl]
theorem l13Good_eq (l : List Sighting) (hf : ∀ s ∈ l, sz13 s) (hl : l.length ≤ 9223372036854775807) : GsL13Good.P l = some (okSis l) := by
  simp only [GsL13Good.P]
  rw [up_loop (ok := okSi) (id := Sighting.id) (no := false)]
  · unfold okSis upL; cases upTo okSi Sighting.id l l.length <;> simp [GsL13Good.e0, letK]; omega
  · intro k nx s hs
    have hi : idx l (k : Int) = some s := by rw [idx_nat, hs]
    have hk : k < l.length := (List.getElem?_eq_some_iff.1 hs).1
    have hm := l13One_eq s.id s.year s.town s.traits (hf s (List.mem_of_getElem? hs))
    simp only [GsL13Good.l0, hi, Option.bind_some, unSighting, hm, letK, joinK, appK, iteK_if]
    refine ⟨fun h => by simp [h], fun h => ⟨fun h0 => by subst h0; simp [h], fun h0 r hr => ?_⟩⟩
    rw [idx_pred h0 (by omega) hr]
    have hk0 : (0 : Int) < (k : Int) := by omega
    have hk1 : ¬ k = 0 := by omega
    exact ⟨fun hlt => by (have hc : ¬ s.id ≤ r.id := by omega); simp [h, hk0, hk1, hc], fun hge => by simp [h, hk0, hk1, hge]⟩
theorem okSis_at {l : List Sighting} (h : okSis l = true) {x : Sighting} (hx : x ∈ l) : okSi x = true := upL_mem h hx
theorem okSis_len {l : List Sighting} (h : okSis l = true) : l.length ≤ 10 := upL_len h
end Go.Proofs.Ytpaakpbbahbhcaa.Q13List

/- Chapter 13: a sighting is added: the plain functions of the program and of the reference agree, and the law answers true. (Q13Add) No condition but those of each theorem. -/
namespace Go.Proofs.Ytpaakpbbahbhcaa.Q13Add
set_option linter.unusedVariables false
set_option linter.unusedSimpArgs false
open Go.RowKit
open Go.Proofs.Ytpaakpbbahbhcaa.GoP Go.Proofs.Ytpaakpbbahbhcaa.PlainStamp Go.Proofs.Ytpaakpbbahbhcaa.QBase Go.Proofs.Ytpaakpbbahbhcaa.Q13List Go.Proofs.Ytpaakpbbahbhcaa.Q13One Go.Proofs.Ytpaakpbbahbhcaa.QUp Go.Proofs.Ytpaakpbbahbhcaa.QLoop Go.Proofs.Ytpaakpbbahbhcaa.PSighting

theorem own_eq {l : List Int} (h : l.length ≤ 1048576) : GsL1Own.P l = some l := by
  simp only [GsL1Own.P, letK]; rw [guardK_pos (by simp; omega)]; simp
theorem cloneI_eq {l : List Int} (h : l.length ≤ 1048576) : GxSlicesCloneIntInt.P l = some l := by
  simp only [GxSlicesCloneIntInt.P, Go.Proofs.Ytpaakpbbahbhcaa.GoK.nilK, iteK_if, letK]
  rw [if_neg (by simp), guardK_pos (by simp; omega)]; simp
theorem clone_eq {l : List Sighting} (h : l.length ≤ 1048576) : GxSlicesCloneLoopExampleG01062ImplSightingLoopExampleG01062ImplSighting.P l = some l := by
  simp only [GxSlicesCloneLoopExampleG01062ImplSightingLoopExampleG01062ImplSighting.P, Go.Proofs.Ytpaakpbbahbhcaa.GoK.nilK, iteK_if, letK]
  rw [if_neg (by simp), guardK_pos (by simp; omega)]
theorem set_self {l : List Sighting} {k : Nat} {x : Sighting} (h : l[k]? = some x) : l.set k x = l := by
  apply List.ext_getElem?
  intro i
  by_cases he : i = k
  · subst he; rw [List.getElem?_set_self (List.getElem?_eq_some_iff.1 h).1, h]
  · rw [List.getElem?_set_ne (by omega)]
theorem ok_front {l : List Sighting} {x : Sighting} (h : okSis (l ++ [x]) = true) : okSis l = true := by
  unfold okSis upL at h ⊢
  simp only [Bool.and_eq_true, decide_eq_true_eq, List.length_append, List.length_cons, List.length_nil] at h ⊢
  refine ⟨by omega, ?_⟩
  unfold upTo at h ⊢
  apply List.all_eq_true.2
  intro k hk
  have hk2 := List.mem_range.1 hk
  have h2 := List.all_eq_true.1 h.2 k (List.mem_range.2 (by omega))
  unfold upAt at h2 ⊢
  rw [List.getElem?_append_left hk2, List.getElem?_append_left (by omega)] at h2
  exact h2
def nid (l : List Sighting) : Int := if 0 < l.length then IntKind.i64.wrap ((l.getD (l.length - 1) ⟨0, 0, ⟨#[]⟩, []⟩).id + 1) else 1
def addJ (l : List Sighting) (id year : Int) (town : ByteArray) (tr : List Int) : List Sighting × Int × Bool := if okSis (l ++ [⟨id, year, town, tr⟩]) = true then (l ++ [⟨id, year, town, tr⟩], id, true) else ([], 0, false)
def addRes (l : List Sighting) (year : Int) (town : ByteArray) (tr : List Int) : List Sighting × Int × Bool := addJ l (nid l) year town tr
theorem j_impl (l : List Sighting) (id year : Int) (town : ByteArray) (tr : List Int) (hl : l.length ≤ 1048576) : GiAddSighting.j0 l year town tr id = some (addJ l id year town tr) := by
  simp only [GiAddSighting.j0, clone_eq hl, Option.bind_some, letK]
  rw [guardK_pos (by omega), areSightings_eq]
  simp only [Option.bind_some, iteK_if, addJ]
  cases hok : okSis (l ++ [⟨id, year, town, tr⟩]) with
  | false => simp
  | true =>
    simp only [Bool.not_true, Bool.false_eq_true, if_false, if_true]
    refine cnt_is _ (fun _ s => s = l ++ [⟨id, year, town, tr⟩]) ?_ ?_ _ rfl
    · rintro k s nx hk rfl hn
      obtain ⟨x, hx, hi⟩ := at_lt (l := l ++ [⟨id, year, town, tr⟩]) (k := k) hk
      have h8 : x.traits.length ≤ 8 := (okSi_of (okSis_at hok (List.mem_of_getElem? hx))).2.2.2.1
      simp only [GiAddSighting.l0, letK, hi, Option.bind_some, unSighting, cloneI_eq (l := x.traits) (by omega), appK]
      rw [show (⟨x.id, x.year, x.town, x.traits⟩ : Sighting) = x from rfl, set_self hx]
      exact hn _ rfl
    · rintro s rfl; rfl
theorem j_spec (l : List Sighting) (id year : Int) (town : ByteArray) (tr : List Int) (hl : l.length ≤ 1048576) (hr : tr.length ≤ 1048576) (ht : town.size ≤ 9223372036854775807) (hs : ∀ s ∈ l, sz13 s) (hx : ∀ s ∈ l, s.traits.length ≤ 1048576) : GsAddSighting.j0 l year town tr id = some (addJ l id year town tr) := by
  simp only [GsAddSighting.j0]
  refine cnt_is _ (fun k s => s = l.take k) ?_ ?_ _ (by simp)
  · rintro k s nx hk rfl hn
    obtain ⟨x, hxk, hi⟩ := at_lt (l := l) (k := k) hk
    simp only [GsAddSighting.l0, letK, hi, Option.bind_some, unSighting, own_eq (hx x (List.mem_of_getElem? hxk)), appK]
    rw [guardK_pos (by rw [List.length_take]; omega)]
    exact hn _ (take_next hxk).symm
  · rintro s rfl
    have g1 := l13Good_eq l hs (by omega)
    have g2 := l13Good_eq (l ++ [⟨id, year, town, tr⟩]) (fun s h => by
      rcases List.mem_append.1 h with h | h
      · exact hs s h
      · rw [List.mem_singleton.1 h]; exact ⟨ht, by show tr.length ≤ _; omega⟩) (by simp; omega)
    simp only [GsAddSighting.e0, letK, own_eq hr, Option.bind_some, List.take_length, g1]
    rw [guardK_pos (by omega)]
    simp only [g2, Option.bind_some, joinK, appK, iteK_if, addJ]
    cases h1 : okSis (l ++ [⟨id, year, town, tr⟩]) with
    | true => simp [ok_front h1]
    | false => cases okSis l <;> simp
theorem add_both (l : List Sighting) (year : Int) (town : ByteArray) (tr : List Int) (hl : l.length ≤ 1048576) : GiAddSighting.P l year town tr = GiAddSighting.j0 l year town tr (nid l) ∧ GsAddSighting.P l year town tr = GsAddSighting.j0 l year town tr (nid l) := by
  simp only [GiAddSighting.P, GsAddSighting.P, letK, iteK_if]
  by_cases h0 : 0 < l.length
  · have hd : decide (0 < (l.length : Int)) = true := by simp; omega
    obtain ⟨x, hx, hi⟩ := at_lt (l := l) (k := l.length - 1) (by omega)
    have hw : IntKind.i64.wrap ((l.length : Int) - 1) = ((l.length - 1 : Nat) : Int) := by rw [wrap_in (by omega) (by omega)]; omega
    have hn : nid l = IntKind.i64.wrap (x.id + 1) := by unfold nid; rw [if_pos h0, List.getD_eq_getElem?_getD, hx]; rfl
    rw [if_pos hd, if_pos hd, hw, hi, hn]
    exact ⟨rfl, rfl⟩
  · have hd : ¬ decide (0 < (l.length : Int)) = true := fun h => by have := of_decide_eq_true h; omega
    have hn : nid l = 1 := by unfold nid; rw [if_neg h0]
    rw [if_neg hd, if_neg hd, hn]
    exact ⟨rfl, rfl⟩
end Go.Proofs.Ytpaakpbbahbhcaa.Q13Add

/- How a struct of one-cell fields that comes in as data is opened, whatever the number of its fields; lists by their members. No condition. -/
namespace Go.Proofs.Ytpaakpbbahbhcaa.OpenAny
set_option linter.unusedVariables false
open Go.Joins Go.ChangeShapes Go.WideShapes Go.RowKit Go.Deep

theorem add_none (b o n : Nat) : (⟨b, o, none⟩ : Addr).add n = ⟨b, o + n, none⟩ := by
  unfold Addr.add; split
  · rename_i h; subst h; rfl
  · rfl
section
variable {H : Type} {enc : TypeId × Value → H} {P : Program} {w : World} {base : Nat} {spare : Nat → Bool} {held : Bool}
/-- each field reads on its own -/
theorem read_fields {t : TypeId} {fs : Array Field} {fuel : Nat} {cs : List Value} {x : DataW H × List MemPlace} (hs : P.underlying t = some (.struct fs)) (hone : oneCellFields P fs = true) (hC : P.cellsOf t = fs.size)
    (h : DataW.trod enc P w base spare held fuel t cs = some x) :
    cs.length = P.cellsOf t ∧ ∀ (j : Nat) (f : Field), fs[j]? = some f → ∃ (u : Value) (n : Nat) (y : DataW H × List MemPlace), cs[j]? = some u ∧ DataW.trod enc P w base spare held n f.type [u] = some y := by
  obtain ⟨xs, n, _, _, hlen, hxl, hg⟩ := DataW.trod_struct hs h
  refine ⟨hlen, fun j f hj => ?_⟩
  obtain ⟨ho, hk⟩ := hone_of hone j f hj
  have hjl : j < fs.size := (Array.getElem?_eq_some_iff.1 hj).1
  have h1 := hg j f hj
  rw [ho, hk, List.getElem?_eq_getElem (by omega : j < xs.length)] at h1
  have hc : j < cs.length := by omega
  rw [List.drop_eq_getElem_cons hc] at h1
  exact ⟨cs[j], n, _, List.getElem?_eq_getElem hc, h1⟩
end
/-- a list by its members -/
theorem list_of {α : Type} (p : Nat → α → Prop) : ∀ (n : Nat), (∀ k, k < n → ∃ a, p k a) → ∃ l : List α, l.length = n ∧ ∀ k a, l[k]? = some a → p k a
  | 0, _ => ⟨[], rfl, fun k a h => by simp at h⟩
  | n + 1, h => by
    obtain ⟨l, hl, hp⟩ := list_of p n (fun k hk => h k (by omega))
    obtain ⟨a, ha⟩ := h n (by omega)
    refine ⟨l ++ [a], by simp [hl], fun k b hb => ?_⟩
    by_cases hk : k < n
    · rw [List.getElem?_append_left (by omega)] at hb; exact hp k b hb
    · have hk' : k < (l ++ [a]).length := (List.getElem?_eq_some_iff.1 hb).1
      simp [hl] at hk'
      obtain rfl : k = n := by omega
      rw [List.getElem?_append_right (by omega), hl, Nat.sub_self] at hb
      obtain rfl : a = b := by simpa using hb
      exact ha
end Go.Proofs.Ytpaakpbbahbhcaa.OpenAny

/- A slice of strings or of integers that lies in a record that came in: the list that it reads as. No condition. -/
namespace Go.Proofs.Ytpaakpbbahbhcaa.OpenNest
set_option linter.unusedVariables false
open Go.Joins Go.ChangeShapes Go.WideShapes Go.RowKit Go.Deep Go.Proofs.Ytpaakpbbahbhcaa.Rowed
theorem len3 {l : List Value} (h : l.length = 3) : ∃ a b c, l = [a, b, c] := by
  match l, h with
  | [a, b, c], _ => exact ⟨a, b, c, rfl⟩
section
variable {H : Type} {enc : TypeId × Value → H} {P : Program} {w : World}
end
end Go.Proofs.Ytpaakpbbahbhcaa.OpenNest

/- A slice of records Sighting that came in, each of which holds a row: the list that it reads as. No condition. -/
namespace Go.Proofs.Ytpaakpbbahbhcaa.OVSighting
set_option linter.unusedVariables false
set_option maxRecDepth 100000
open Go.Joins Go.ChangeShapes Go.WideShapes Go.RowKit Go.Deep Go.Proofs.Ytpaakpbbahbhcaa.Rowed Go.Proofs.Ytpaakpbbahbhcaa.OpenAny Go.Proofs.Ytpaakpbbahbhcaa.GoV Go.Proofs.Ytpaakpbbahbhcaa.GoM Go.Proofs.Ytpaakpbbahbhcaa.GoVSighting Go.Proofs.Ytpaakpbbahbhcaa.PSighting

def Fits (s : Sighting) : Prop := (Lit.int .i64 s.id).wf = true ∧ (Lit.int .i64 s.year).wf = true ∧ s.town.size ≤ maxLen ∧ (s.traits.length ≤ maxLen ∧ ∀ n ∈ s.traits, (Lit.int .i64 n).wf = true)
structure Came (w : World) (A : Option Addr) (len cap : Nat) (l : List Sighting) : Prop where
  reads : ReadNest w lay A l
  long : l.length = len
  small : len ≤ maxLen
  fits : ∀ s ∈ l, Fits s
section
variable {H : Type} {enc : TypeId × Value → H} {P : Program} {w : World}
theorem ints_in {t e : TypeId} {fuel : Nat} {u : Value} {x : DataW H × List MemPlace} (ht : P.underlying t = some (.slice e)) (he : P.underlying e = some (.int .i64)) (hc : P.cellsOf e = 1)
    (h : DataW.trod enc P w 0 (fun _ => true) true fuel t [u] = some x) :
    ∃ (a : Option Addr) (cap : Nat) (l : List Int), u = .slice a l.length cap ∧ Cells w 1 a l.length (Go.Proofs.Ytpaakpbbahbhcaa.HelpInt.iv l) ∧ Room a l.length cap ∧ l.length ≤ maxLen ∧ ∀ n ∈ l, (Lit.int .i64 n).wf = true := by
  rcases open_ints ht he hc h with ⟨hcs, _⟩ | ⟨x, l, c, zs, hcs, hxb, hl, hm, hz, hdat, hcell, hwz⟩
  · obtain rfl : u = .slice none 0 0 := by simpa using hcs
    exact ⟨none, 0, [], rfl, Cells.nil_ _ _ _, ⟨Nat.le_refl _, fun _ => rfl⟩, by unfold maxLen; simp, by intro s hs; simp at hs⟩
  · obtain rfl : u = .slice (some x) l c := by simpa using hcs
    have hz' : zs.length = c := by simpa using hz
    have hn : (zs.take l).length = l := by rw [List.length_take]; omega
    refine ⟨some x, c, zs.take l, by rw [hn], ⟨by unfold Go.Proofs.Ytpaakpbbahbhcaa.HelpInt.iv; rw [List.length_map]; omega, fun _ => ⟨x, rfl, fun j u hu => ?_⟩⟩, ⟨by rw [hn]; omega, fun e => by simp at e⟩, by rw [hn]; omega, fun s hs => hwz s (List.mem_of_mem_take hs)⟩
    unfold Go.Proofs.Ytpaakpbbahbhcaa.HelpInt.iv at hu
    rw [List.getElem?_map] at hu
    cases hj : (zs.take l)[j]? with
    | none => rw [hj] at hu; simp at hu
    | some y =>
      rw [hj] at hu
      obtain rfl : Value.int .i64 y = u := by simpa using hu
      have hjl := (List.getElem?_eq_some_iff.1 hj).1
      rw [List.length_take] at hjl
      rw [List.getElem?_take_of_lt (by omega)] at hj
      rw [hcell j (by omega), List.getD_eq_getElem?_getD, hj]; rfl
theorem read_one {n : Nat} {cs : List Value} {x : DataW H × List MemPlace} (h : DataW.trod enc Try.prog w 0 (fun _ => true) true n 81 cs = some x) : ∃ (s : Sighting) (z : Option Addr × Nat), cs = lay.enc s z ∧ Held w lay z s ∧ Fits s := by
  have hc : Try.prog.cellsOf 81 = 4 := by kernel_rfl
  obtain ⟨hl, hf⟩ := read_fields Try.underlying81 (by kernel_rfl) hc h
  rw [hc] at hl
  match cs, hl with
  | [v0, v1, v2, v3], _ =>
    obtain ⟨u0, n0, y0, eu0, t0⟩ := hf 0 _ rfl
    obtain rfl : v0 = u0 := by simpa using eu0
    obtain ⟨x0, e0, _, f0⟩ := DataW.trod_int Try.underlying3 t0
    obtain rfl : v0 = .int .i64 x0 := by simpa using e0
    obtain ⟨u1, n1, y1, eu1, t1⟩ := hf 1 _ rfl
    obtain rfl : v1 = u1 := by simpa using eu1
    obtain ⟨x1, e1, _, f1⟩ := DataW.trod_int Try.underlying3 t1
    obtain rfl : v1 = .int .i64 x1 := by simpa using e1
    obtain ⟨u2, n2, y2, eu2, t2⟩ := hf 2 _ rfl
    obtain rfl : v2 = u2 := by simpa using eu2
    obtain ⟨x2, e2, _, f2⟩ := DataW.trod_string Try.underlying9 t2
    obtain rfl : v2 = .string x2 := by simpa using e2
    obtain ⟨u3, n3, y3, eu3, t3⟩ := hf 3 _ rfl
    obtain rfl : v3 = u3 := by simpa using eu3
    obtain ⟨ax, cx, x3, rfl, hx, rx, mx, fx⟩ := ints_in Try.underlying32 Try.underlying3 (by kernel_rfl) t3
    exact ⟨⟨x0, x1, x2, x3⟩, (ax, cx), rfl, ⟨hx, rx, by have h_ : x3.length ≤ maxLen := mx; unfold maxLen at h_; show x3.length ≤ _; omega⟩, f0, f1, f2, ⟨mx, fx⟩⟩
theorem open_many {a : Option Addr} {len cap : Nat} {d : DataW H} {p : List MemPlace}
    (h : DataW.Trod enc Try.prog w 0 (fun _ => true) true 41 (.slice a len cap) d p) : ∃ l : List Sighting, Came w a len cap l := by
  obtain ⟨fuel, hf⟩ := h
  have ck : Try.prog.cellsOf 81 = 4 := by kernel_rfl
  rcases open_slice Try.underlying41 hf with ⟨hcs, _⟩ | ⟨x, ln, cp, m, n, D, Pl, hcs, hb, hl, hm, hmm, _, hi⟩
  · have e : (Value.slice a len cap) = .slice none 0 0 := by simpa [Value.cells] using hcs
    simp only [Value.slice.injEq] at e
    obtain ⟨rfl, rfl, rfl⟩ := e
    exact ⟨[], ⟨[], rfl, Cells.nil_ _ _ _, by intro i x h hx; simp at hx⟩, rfl, by unfold maxLen; omega, by intro s hs; simp at hs⟩
  · have e : (Value.slice a len cap) = .slice (some x) ln cp := by simpa [Value.cells] using hcs
    simp only [Value.slice.injEq] at e
    obtain ⟨rfl, rfl, rfl⟩ := e
    simp only [if_true] at hmm
    subst hmm
    rw [ck] at hi
    obtain ⟨l, hll, hp⟩ := list_of (fun k (s : Sighting × (Option Addr × Nat)) => Fits s.1 ∧ Held w lay s.2 s.1 ∧ ∀ j, j < 4 → w.cell? (x.add (k * 4 + j)) = (lay.enc s.1 s.2)[j]?) len (fun k hk => by
      obtain ⟨cs', hc, ht⟩ := hi k (by omega)
      obtain ⟨s, z, rfl, hh, hfit⟩ := read_one ht
      refine ⟨(s, z), hfit, hh, fun j hj => ?_⟩
      have := (World.cells?_some hc).2.2 j hj
      rw [Go.Deep.add_add] at this
      exact this)
    have hz : (l.map (·.1)).zip (l.map (·.2)) = l := by rw [List.zip_map', List.map_id']
    have hm1 : ∀ (i : Nat) s z, (l.map (·.1))[i]? = some s → (l.map (·.2))[i]? = some z → l[i]? = some (s, z) := by
      intro i s z hs hz'
      rw [List.getElem?_map] at hs hz'
      cases hli : l[i]? with
      | none => rw [hli] at hs; simp at hs
      | some q => rw [hli] at hs hz'; simp at hs hz'; rw [← hs, ← hz']
    refine ⟨l.map (·.1), ⟨l.map (·.2), by simp, ⟨?_, fun h0 => ⟨x, rfl, fun j u hu => ?_⟩⟩, fun i s z hs hz' => (hp i _ (hm1 i s z hs hz')).2.1⟩, by simp [hll], by omega, fun s hs => ?_⟩
    · rw [cellsOf_len (by simp), List.length_map, hll]
    · unfold cellsOf at hu
      rw [hz] at hu
      have hlen : (l.flatMap fun p => lay.enc p.1 p.2).length = l.length * 4 := flat_len (fun p => lay.len p.1 p.2) l
      have hj : j < l.length * 4 := by rw [← hlen]; exact (List.getElem?_eq_some_iff.1 hu).1
      have hk : j / 4 < l.length := by omega
      have hx := List.getElem?_eq_getElem hk
      have h2 := (hp (j / 4) _ hx).2.2 (j % 4) (by omega)
      rw [show j / 4 * 4 + j % 4 = j by omega] at h2
      rw [h2]
      have hlt : j % 4 < (lay.enc l[j / 4].1 l[j / 4].2).length := by rw [lay.len]; show j % 4 < 4; omega
      have h3 := flat_at (f := fun p : Sighting × (Option Addr × Nat) => lay.enc p.1 p.2) (K := 4) (fun p => lay.len p.1 p.2) l (j / 4) (j % 4) _ _ hx (List.getElem?_eq_getElem hlt)
      rw [show j / 4 * 4 + j % 4 = j by omega, hu] at h3
      rw [h3]; exact List.getElem?_eq_getElem hlt
    · obtain ⟨q, hq, rfl⟩ := List.mem_map.1 hs
      obtain ⟨k, hk⟩ := List.getElem?_of_mem hq
      exact (hp k _ hk).1
end
end Go.Proofs.Ytpaakpbbahbhcaa.OVSighting

/- Chapter 13: censuses: the plain functions of the program and of the reference agree, and the laws answer true. (QF13) No condition but those of each theorem. -/
namespace Go.Proofs.Ytpaakpbbahbhcaa.QF13
set_option linter.unusedVariables false
set_option linter.unusedSimpArgs false
open Go.RowKit
open Go.Proofs.Ytpaakpbbahbhcaa.GoP Go.Proofs.Ytpaakpbbahbhcaa.PlainStamp Go.Proofs.Ytpaakpbbahbhcaa.QBase Go.Proofs.Ytpaakpbbahbhcaa.Q13One Go.Proofs.Ytpaakpbbahbhcaa.PSighting

theorem fits_sz {s : Sighting} (h : Go.Proofs.Ytpaakpbbahbhcaa.OVSighting.Fits s) : sz13 s := by
  obtain ⟨a, b, c, d⟩ := s
  obtain ⟨_, _, h1, h2, _⟩ := h
  unfold maxLen at h1 h2
  exact ⟨h1, h2⟩
end Go.Proofs.Ytpaakpbbahbhcaa.QF13

/- The laws' helpers on slices of ints as plain functions: equal, marked, held. Condition: at most 2^40 numbers. -/
namespace Go.Proofs.Ytpaakpbbahbhcaa.QInt
set_option linter.unusedVariables false
set_option linter.unusedSimpArgs false
open Go.RowKit
open Go.Proofs.Ytpaakpbbahbhcaa.GoP Go.Proofs.Ytpaakpbbahbhcaa.QBase Go.Proofs.Ytpaakpbbahbhcaa.QLoop

theorem eqI (l : List Int) : GlEqIntS.P l l = some true := by
  simp only [GlEqIntS.P, letK, iteK_if]
  rw [if_neg (by simp)]
  refine cnt_is true (fun _ _ => True) ?_ (fun s _ => rfl) () trivial
  intro k s nx hk _ hn
  obtain ⟨x, hx, hi⟩ := at_lt (l := l) (k := k) hk
  simp only [GlEqIntS.l0, hi, Option.bind_some, letK, appK, iteK_if]
  rw [if_neg (by simp)]
  exact hn () trivial
/-- 1, 2, 3 .. -/
def ups (n : Nat) : List Int := (List.range n).map (fun i : Nat => (i : Int) + 1)
end Go.Proofs.Ytpaakpbbahbhcaa.QInt

/- Chapter 5: combs, holes, gauges: the plain functions of the program and of the reference agree, and the laws answer true. (QToI) No condition but those of each theorem. -/
namespace Go.Proofs.Ytpaakpbbahbhcaa.QToI
set_option linter.unusedVariables false
set_option linter.unusedSimpArgs false
open Go.RowKit
open Go.Proofs.Ytpaakpbbahbhcaa.GoP Go.Proofs.Ytpaakpbbahbhcaa.PlainStamp Go.Proofs.Ytpaakpbbahbhcaa.QBase Go.Proofs.Ytpaakpbbahbhcaa.QLoop

theorem toI (l : List Int) (hl : l.length ≤ 1048576) : GlToIntS.P l = some l := by
  simp only [GlToIntS.P, letK]
  rw [guardK_pos (by omega)]
  refine cnt_is l (fun k s => s = l.take k ++ List.replicate (l.length - k) 0) ?_ ?_ _ (by simp)
  · intro k s nx hk hI hn
    obtain ⟨x, hx, hi⟩ := at_lt (l := l) (k := k) hk
    have hlen : s.length = l.length := by rw [hI]; simp; omega
    obtain ⟨z, hz, hj⟩ := at_lt (l := s) (k := k) (by omega)
    simp only [GlToIntS.l0, hi, hj, Option.bind_some, letK, appK]
    refine hn _ ?_
    rw [hI, take_next hx, List.set_append_right _ _ (by simp; omega)]
    have hr : l.length - k = (l.length - (k + 1)) + 1 := by omega
    rw [hr, List.replicate_succ, List.append_assoc]
    simp [show k - min k l.length = 0 by omega]
  · intro s hI
    rw [hI]; simp [GlToIntS.e0, letK]
end Go.Proofs.Ytpaakpbbahbhcaa.QToI

/- The laws' helpers on Sighting, which holds a row, and on slices of it as plain functions: copied, equal, their bulk. No condition but those of each theorem. -/
namespace Go.Proofs.Ytpaakpbbahbhcaa.QHVSightingE
set_option linter.unusedVariables false
set_option linter.unusedSimpArgs false
open Go.RowKit
open Go.Proofs.Ytpaakpbbahbhcaa.GoP Go.Proofs.Ytpaakpbbahbhcaa.QBase Go.Proofs.Ytpaakpbbahbhcaa.QLoop Go.Proofs.Ytpaakpbbahbhcaa.QInt Go.Proofs.Ytpaakpbbahbhcaa.QToI Go.Proofs.Ytpaakpbbahbhcaa.PSighting

/-- what a machine can hold -/
def szOk (s : Sighting) : Prop := s.town.size ≤ 9223372036854775807 ∧ s.traits.length ≤ 9223372036854775807
theorem toOne (s : Sighting) (h : s.traits.length ≤ 1048576) : GlToSighting.P s.id s.year s.town s.traits = some s := by
  simp only [GlToSighting.P, toI s.traits h, Option.bind_some]
theorem eqOne (s : Sighting) : GlEqSighting.P s.id s.year s.town s.traits s.id s.year s.town s.traits = some true := by
  simp [GlEqSighting.P, eqI, letK, joinK, appK, iteK_if]
theorem szI_eq (l : List Int) (left : Int) (h0 : 0 ≤ left) (h1 : left ≤ 1048576) (hl : l.length ≤ 9223372036854775807) : GlSzIntS.P l left = some (if left - (l.length : Int) < 0 then -1 else left - (l.length : Int)) := by
  simp only [GlSzIntS.P, letK, iteK_if]
  rw [wrap_in (by omega) (by omega)]
  by_cases h : left - (l.length : Int) < 0
  · rw [if_pos (by simpa using h), if_pos h]
  · rw [if_neg (by simpa using h), if_neg h]
theorem szOne (s : Sighting) (left : Int) (h : szOk s) (h0 : 0 ≤ left) (h1 : left ≤ 1048576) : ∃ v, GlSzSighting.P s.id s.year s.town s.traits left = some v ∧ v ≤ left ∧ (0 ≤ v → v + (s.traits.length : Int) ≤ left) := by
  have hm := h
  unfold szOk at hm
  simp only [GlSzSighting.P, letK, iteK_if]
  rw [wrap_in (x := left - (s.town.size : Int)) (by omega) (by omega)]
  by_cases hd0 : left - (s.town.size : Int) < 0
  · exact ⟨-1, by rw [if_pos (by simpa using hd0)], by omega, by omega⟩
  rw [if_neg (by simpa using hd0)]
  rw [szI_eq s.traits (left - (s.town.size : Int)) (by omega) (by omega) (by omega)]
  simp only [Option.bind_some]
  by_cases hd1 : left - (s.town.size : Int) - (s.traits.length : Int) < 0
  · rw [if_pos hd1]; exact ⟨-1, by simp, by omega, by omega⟩
  rw [if_neg hd1, if_neg (by simpa using hd1)]
  exact ⟨_, rfl, by omega, by omega⟩
/-- how many numbers the first k records hold -/
def tot (l : List Sighting) (k : Nat) : Nat := ((l.take k).map fun s => s.traits.length).sum
theorem tot_next {l : List Sighting} {k : Nat} {x : Sighting} (hx : l[k]? = some x) : tot l (k + 1) = tot l k + x.traits.length := by unfold tot; rw [take_next hx]; simp
theorem tot_zero (l : List Sighting) : tot l 0 = 0 := rfl
theorem tot_mono (l : List Sighting) : ∀ d k, tot l k ≤ tot l (k + d) := by
  intro d
  induction d with
  | zero => intro k; exact Nat.le_refl _
  | succ d ih =>
    intro k
    have := ih k
    by_cases h : k + d < l.length
    · have h2 := tot_next (List.getElem?_eq_getElem h)
      rw [show k + (d + 1) = k + d + 1 by omega]; omega
    · have e : tot l (k + (d + 1)) = tot l (k + d) := by unfold tot; rw [List.take_of_length_le (by omega), List.take_of_length_le (by omega)]
      omega
theorem tot_mem {l : List Sighting} {x : Sighting} (hx : x ∈ l) : x.traits.length ≤ tot l l.length := by
  obtain ⟨k, hk⟩ := List.getElem?_of_mem hx
  have h1 := tot_next hk
  have hkl := (List.getElem?_eq_some_iff.1 hk).1
  have h2 := tot_mono l (l.length - (k + 1)) (k + 1)
  rw [show k + 1 + (l.length - (k + 1)) = l.length by omega] at h2
  omega
/-- what fits into the laws' bulk -/
def small (l : List Sighting) : Prop := l.length + tot l l.length ≤ 1048576
theorem small_len {l : List Sighting} (h : small l) : l.length ≤ 1048576 := by unfold small at h; omega
theorem small_row {l : List Sighting} (h : small l) {x : Sighting} (hx : x ∈ l) : x.traits.length ≤ 1048576 := by have := tot_mem hx; unfold small at h; omega
theorem szF (l : List Sighting) (left : Int) (h0 : 0 ≤ left) (h1 : left ≤ 1048576) (hf : ∀ s ∈ l, szOk s) (hl : l.length ≤ 9223372036854775807) : ∃ v, GlSzSightingS.P l left = some v ∧ v ≤ left ∧ (0 ≤ v → small l) := by
  simp only [GlSzSightingS.P, letK, iteK_if]
  rw [wrap_in (by omega) (by omega)]
  by_cases h : left - (l.length : Int) < 0
  · exact ⟨-1, by rw [if_pos (by simp; omega)], by omega, by omega⟩
  · rw [if_neg (by simp; omega)]
    refine cnt_ex (n := l.length) (Q := fun v => v ≤ left ∧ (0 ≤ v → small l)) (fun k (s : Int) => 0 ≤ s ∧ s + (tot l k : Int) ≤ left - (l.length : Int)) ?_ ?_ l.length 0 _ (by omega) ⟨by omega, by rw [tot_zero]; omega⟩
    · intro k s nx hk hI hn
      obtain ⟨x, hx, hi⟩ := at_lt (l := l) (k := k) hk
      simp only [GlSzSightingS.l0, hi, Option.bind_some, unSighting, letK, appK, iteK_if]
      obtain ⟨v, hv, hv1, hv2⟩ := szOne x s (hf x (List.mem_of_getElem? hx)) hI.1 (by omega)
      rw [hv]
      simp only [Option.bind_some]
      by_cases hb : v < 0
      · rw [if_pos (by simpa using hb)]; exact ⟨-1, by simp, by omega, by omega⟩
      · rw [if_neg (by simpa using hb)]
        refine hn _ ⟨by omega, ?_⟩
        have := hv2 (by omega)
        rw [tot_next hx]; omega
    · intro s hI; exact ⟨s, rfl, by omega, fun _ => by unfold small; omega⟩
theorem szS (l : List Sighting) (hf : ∀ s ∈ l, szOk s) (hl : l.length ≤ 9223372036854775807) : ∃ v, GlSzSightingS.P l 1048576 = some v ∧ (0 ≤ v → small l) := by
  obtain ⟨v, h1, _, h2⟩ := szF l 1048576 (by omega) (by omega) hf hl
  exact ⟨v, h1, h2⟩
theorem toS (l : List Sighting) (hl : small l) : GlToSightingS.P l = some l := by
  have hlen := small_len hl
  simp only [GlToSightingS.P, letK]
  rw [guardK_pos (by omega)]
  refine cnt_is l (fun k s => s = l.take k ++ List.replicate (l.length - k) (Sighting.mk 0 0 ByteArray.empty [])) ?_ ?_ _ (by simp)
  · intro k s nx hk hI hn
    obtain ⟨x, hx, hi⟩ := at_lt (l := l) (k := k) hk
    have hsl : s.length = l.length := by rw [hI]; simp; omega
    obtain ⟨z, hz, hj⟩ := at_lt (l := s) (k := k) (by omega)
    have h1 := toOne x (small_row hl (List.mem_of_getElem? hx))
    simp only [GlToSightingS.l0, hi, hj, h1, Option.bind_some, unSighting, letK, appK]
    refine hn _ ?_
    rw [hI, take_next hx, List.set_append_right _ _ (by simp; omega)]
    have hr : l.length - k = (l.length - (k + 1)) + 1 := by omega
    rw [hr, List.replicate_succ, List.append_assoc]
    simp [show k - min k l.length = 0 by omega]
  · intro s hI
    rw [hI]; simp [GlToSightingS.e0, letK]
theorem eqS (l : List Sighting) : GlEqSightingS.P l l = some true := by
  simp only [GlEqSightingS.P, letK, iteK_if]
  rw [if_neg (by simp)]
  refine cnt_is true (fun _ _ => True) ?_ (fun s _ => rfl) () trivial
  intro k s nx hk _ hn
  obtain ⟨x, hx, hi⟩ := at_lt (l := l) (k := k) hk
  simp only [GlEqSightingS.l0, hi, Option.bind_some, unSighting, eqOne, letK, appK, iteK_if]
  exact hn () trivial
end Go.Proofs.Ytpaakpbbahbhcaa.QHVSightingE

/- The laws' helper that marks a slice of Sighting as a plain function. No condition but those of each theorem. -/
namespace Go.Proofs.Ytpaakpbbahbhcaa.QHVSighting
set_option linter.unusedVariables false
set_option linter.unusedSimpArgs false
open Go.RowKit
open Go.Proofs.Ytpaakpbbahbhcaa.GoP Go.Proofs.Ytpaakpbbahbhcaa.QBase Go.Proofs.Ytpaakpbbahbhcaa.QLoop Go.Proofs.Ytpaakpbbahbhcaa.QInt Go.Proofs.Ytpaakpbbahbhcaa.QToI Go.Proofs.Ytpaakpbbahbhcaa.PSighting Go.Proofs.Ytpaakpbbahbhcaa.QHVSightingE
theorem set_at {α : Type} {l : List α} {k : Nat} (x : α) (h : k < l.length) : idx (l.set k x) (k : Int) = some x := by rw [idx_nat, List.getElem?_set_self h]
theorem mark_ok (k : Int) (h : 1 ≤ k ∧ k ≤ 1000000000) : ∃ t, GlMarkText.P k = some t := by
  unfold GlMarkText.P; rw [if_pos h]; exact ⟨_, rfl⟩
theorem markI1 (l : List Int) (k0 : Int) (h0 : 0 ≤ k0) (h1 : k0 ≤ 1000000000) (hl : l.length ≤ 1048576) : ∃ v m, GlMarkIntS.P l k0 = some (v, m) ∧ v = k0 + (l.length : Int) ∧ m.length = l.length := by
  obtain ⟨⟨v, m⟩, h, hv⟩ : ∃ r : Int × List Int, GlMarkIntS.P l k0 = some r ∧ r.1 = k0 + (l.length : Int) ∧ r.2.length = l.length := by
    simp only [GlMarkIntS.P]
    refine cnt_ex (n := l.length) (Q := fun r : Int × List Int => r.1 = k0 + (l.length : Int) ∧ r.2.length = l.length) (fun k (s : List Int × Int) => s.1.length = l.length ∧ s.2 = k0 + (k : Int)) ?_ ?_ l.length 0 (l, k0) (by omega) ⟨rfl, by simp⟩
    · rintro k ⟨a, b⟩ nx hk ⟨h2, h3⟩ hn
      dsimp only at h2 h3
      obtain ⟨x, hx, hi⟩ := at_lt (l := a) (k := k) (by omega)
      simp only [GlMarkIntS.l0, unp2, hi, Option.bind_some, letK, appK]
      rw [wrap_in (by omega) (by omega)]
      exact hn _ ⟨by simpa using h2, by dsimp only; omega⟩
    · rintro ⟨a, b⟩ ⟨h2, h3⟩
      exact ⟨_, rfl, h3, h2⟩
  exact ⟨v, m, h, hv⟩
theorem markF (l : List Sighting) (k0 : Int) (hk0 : 1 ≤ k0) (hk1 : k0 ≤ 100000000) (hl : small l) : ∃ v l', GlMarkSightingS.P l k0 = some (v, l') ∧ v = k0 + 3 * (l.length : Int) + (tot l l.length : Int) := by
  have hsm := hl
  unfold small at hsm
  obtain ⟨⟨v, l'⟩, h, hv⟩ : ∃ r : Int × List Sighting, GlMarkSightingS.P l k0 = some r ∧ r.1 = k0 + 3 * (l.length : Int) + (tot l l.length : Int) := by
    simp only [GlMarkSightingS.P]
    refine cnt_ex (n := l.length) (Q := fun r : Int × List Sighting => r.1 = k0 + 3 * (l.length : Int) + (tot l l.length : Int)) (fun k (s : List Sighting × Int) => s.1.length = l.length ∧ (∀ i, k ≤ i → s.1[i]? = l[i]?) ∧ s.2 = 3 * (k : Int) + k0 + (tot l k : Int)) ?_ ?_ l.length 0 (l, k0) (by omega) ⟨rfl, fun _ _ => rfl, by rw [tot_zero]; simp⟩
    · rintro k ⟨a, b⟩ nx hk ⟨h1, h3, h2⟩ hn
      dsimp only at h1 h2 h3
      obtain ⟨x, hx, hi⟩ := at_lt (l := a) (k := k) (by omega)
      have hxl : l[k]? = some x := by rw [← h3 k (Nat.le_refl _)]; exact hx
      have hm := tot_next hxl
      have hm2 := tot_mono l (l.length - (k + 1)) (k + 1)
      rw [show k + 1 + (l.length - (k + 1)) = l.length by omega] at hm2
      have hxr := small_row hl (List.mem_of_getElem? hxl)
      have ha : k < a.length := by omega
      have w0 : IntKind.i64.wrap (b + 1) = b + 1 := wrap_in (by omega) (by omega)
      have w1 : IntKind.i64.wrap (b + 1 + 1) = b + 1 + 1 := wrap_in (by omega) (by omega)
      obtain ⟨t2, m2⟩ := mark_ok (b + 1 + 1) (by omega)
      have w2 : IntKind.i64.wrap (b + 1 + 1 + 1) = b + 1 + 1 + 1 := wrap_in (by omega) (by omega)
      obtain ⟨q, r, hq, hq1, hq2⟩ := markI1 x.traits (b + 1 + 1 + 1) (by omega) (by omega) (by omega)
      simp (disch := simp [ha]) only [GlMarkSightingS.l0, unp2, hi, set_at, Option.bind_some, bind2, unSighting, letK, appK, w0, w1, m2, w2, hq]
      refine hn _ ⟨by simpa using h1, fun i hi2 => ?_, by dsimp only; omega⟩
      dsimp only
      simp only [List.set_set]
      rw [List.getElem?_set_ne (by omega)]
      exact h3 i (by omega)
    · rintro ⟨a, b⟩ ⟨h1, _, h2⟩
      exact ⟨_, rfl, by dsimp only at h2 ⊢; omega⟩
  exact ⟨v, l', h, hv⟩
end Go.Proofs.Ytpaakpbbahbhcaa.QHVSighting

/- Chapter 13: a sighting is added: the plain functions of the program and of the reference agree, and the law answers true. (QHeldSighting) No condition but those of each theorem. -/
namespace Go.Proofs.Ytpaakpbbahbhcaa.QHeldSighting
set_option linter.unusedVariables false
set_option linter.unusedSimpArgs false
open Go.RowKit
open Go.Proofs.Ytpaakpbbahbhcaa.GoP Go.Proofs.Ytpaakpbbahbhcaa.PlainStamp Go.Proofs.Ytpaakpbbahbhcaa.QBase Go.Proofs.Ytpaakpbbahbhcaa.QLoop Go.Proofs.Ytpaakpbbahbhcaa.PSighting Go.Proofs.Ytpaakpbbahbhcaa.QHVSightingE Go.Proofs.Ytpaakpbbahbhcaa.QHVSighting

def upsF (k0 : Int) (n : Nat) : List Int := (List.range n).map fun i : Nat => k0 + (i : Int)
theorem upsF_at (k0 : Int) {n k : Nat} (h : k < n) : (upsF k0 n)[k]? = some (k0 + (k : Int)) := by unfold upsF; simp [h]
theorem upsF_len (k0 : Int) (n : Nat) : (upsF k0 n).length = n := by simp [upsF]
theorem markIF (l : List Int) (k0 : Int) (h0 : 0 ≤ k0) (h1 : k0 ≤ 1000000000) (hl : l.length ≤ 1048576) : GlMarkIntS.P l k0 = some (k0 + (l.length : Int), upsF k0 l.length) := by
  simp only [GlMarkIntS.P]
  refine cnt_is _ (fun k s => s.1.length = l.length ∧ s.2 = k0 + (k : Int) ∧ ∀ i : Nat, i < k → s.1[i]? = some (k0 + (i : Int))) ?_ ?_ (l, k0) ⟨rfl, by simp, fun i hi => by omega⟩
  · rintro k ⟨a, b⟩ nx hk ⟨h1, h2, h3⟩ hn
    dsimp only at h1 h2 h3
    obtain ⟨x, hx, hi⟩ := at_lt (l := a) (k := k) (by omega)
    simp only [GlMarkIntS.l0, unp2, hi, Option.bind_some, letK, appK]
    rw [wrap_in (by omega) (by omega)]
    refine hn _ ⟨by simpa using h1, by dsimp only; omega, fun i hi2 => ?_⟩
    dsimp only
    by_cases he : i = k
    · subst he; rw [List.getElem?_set_self (by omega), h2]
    · rw [List.getElem?_set_ne (by omega)]; exact h3 i (by omega)
  · rintro ⟨a, b⟩ ⟨h1, h2, h3⟩
    dsimp only at h1 h2 h3
    have : a = upsF k0 l.length := by
      apply List.ext_getElem?
      intro i
      by_cases hi : i < l.length
      · rw [h3 i hi, upsF_at k0 hi]
      · rw [List.getElem?_eq_none (by omega), List.getElem?_eq_none (by rw [upsF_len]; omega)]
    simp only [GlMarkIntS.e0, unp2]
    rw [this, h2]
theorem heldIF (n : Nat) (k0 : Int) (h0 : 0 ≤ k0) (h1 : k0 ≤ 1000000000) (hl : n ≤ 1048576) : GlHeldIntS.P (upsF k0 n) k0 = some (k0 + (n : Int)) := by
  simp only [GlHeldIntS.P]
  refine cnt_is _ (fun k s => s = k0 + (k : Int)) ?_ ?_ k0 (by simp)
  · intro k s nx hk hI hn
    rw [upsF_len] at hk
    have hi : idx (upsF k0 n) (k : Int) = some (k0 + (k : Int)) := by rw [idx_nat, upsF_at k0 hk]
    simp only [GlHeldIntS.l0, hi, Option.bind_some, letK, appK, iteK_if]
    rw [if_neg (by simp [hI]), wrap_in (by omega) (by omega)]
    exact hn _ (by omega)
  · intro s hI
    simp only [GlHeldIntS.e0, letK]
    rw [hI, upsF_len]
def off (l : List Sighting) (i : Nat) : Int := 1 + 3 * (i : Int) + (tot l i : Int)
def txt (k : Int) : ByteArray := (GlMarkText.P k).getD ⟨#[]⟩
theorem txt_eq {k : Int} (h : 1 ≤ k ∧ k ≤ 1000000000) : GlMarkText.P k = some (txt k) := by
  obtain ⟨t, ht⟩ := mark_ok k h
  unfold txt; rw [ht]; rfl
def qsi (l : List Sighting) (i : Nat) (x : Sighting) : Sighting := ⟨off l i, off l i + 1, txt (off l i + 2), upsF (off l i + 3) x.traits.length⟩
theorem markHeld (l : List Sighting) (hl : small l) : ∃ v l', GlMarkSightingS.P l 1 = some (v, l') ∧ GlHeldSightingS.P l' 1 = some v ∧ 0 ≤ v := by
  have hsm := hl
  unfold small at hsm
  have htot : ∀ {k : Nat} {x : Sighting}, l[k]? = some x → tot l (k + 1) = tot l k + x.traits.length ∧ tot l (k + 1) ≤ tot l l.length := fun {k x} hx => by
    have hk := (List.getElem?_eq_some_iff.1 hx).1
    have hm2 := tot_mono l (l.length - (k + 1)) (k + 1)
    rw [show k + 1 + (l.length - (k + 1)) = l.length by omega] at hm2
    exact ⟨tot_next hx, hm2⟩
  obtain ⟨⟨v, l'⟩, h, hv, hlen, hat⟩ : ∃ r : Int × List Sighting, GlMarkSightingS.P l 1 = some r ∧ r.1 = off l l.length ∧ r.2.length = l.length ∧ ∀ (i : Nat) (x : Sighting), l[i]? = some x → r.2[i]? = some (qsi l i x) := by
    simp only [GlMarkSightingS.P]
    refine cnt_ex (n := l.length) (Q := fun r : Int × List Sighting => r.1 = off l l.length ∧ r.2.length = l.length ∧ ∀ (i : Nat) (x : Sighting), l[i]? = some x → r.2[i]? = some (qsi l i x)) (fun k (s : List Sighting × Int) => s.1.length = l.length ∧ (∀ i, k ≤ i → s.1[i]? = l[i]?) ∧ s.2 = off l k ∧ ∀ (i : Nat) (x : Sighting), i < k → l[i]? = some x → s.1[i]? = some (qsi l i x)) ?_ ?_ l.length 0 (l, 1) (by omega) ⟨rfl, fun _ _ => rfl, by unfold off; rw [tot_zero]; simp, fun i x hi => by omega⟩
    · rintro k ⟨a, b⟩ nx hk ⟨h1, h3, h2, h4⟩ hn
      dsimp only at h1 h2 h3 h4
      obtain ⟨x, hx, hi⟩ := at_lt (l := a) (k := k) (by omega)
      have hxl : l[k]? = some x := by rw [← h3 k (Nat.le_refl _)]; exact hx
      obtain ⟨hm, hm2⟩ := htot hxl
      have hxr := small_row hl (List.mem_of_getElem? hxl)
      have ha : k < a.length := by omega
      have hb : b = 1 + 3 * (k : Int) + (tot l k : Int) := by rw [h2]; rfl
      have w0 : IntKind.i64.wrap (b + 1) = b + 1 := wrap_in (by omega) (by omega)
      have w1 : IntKind.i64.wrap (b + 1 + 1) = b + 1 + 1 := wrap_in (by omega) (by omega)
      have m2 := txt_eq (k := b + 1 + 1) (by omega)
      have w2 : IntKind.i64.wrap (b + 1 + 1 + 1) = b + 1 + 1 + 1 := wrap_in (by omega) (by omega)
      have hq := markIF x.traits (b + 1 + 1 + 1) (by omega) (by omega) (by omega)
      simp (disch := simp [ha]) only [GlMarkSightingS.l0, unp2, hi, set_at, Option.bind_some, bind2, unSighting, letK, appK, w0, w1, m2, w2, hq]
      simp only [List.set_set]
      have hoff : off l (k + 1) = b + 1 + 1 + 1 + (x.traits.length : Int) := by unfold off; rw [hm]; omega
      refine hn _ ⟨by simpa using h1, fun i hi2 => ?_, by dsimp only; rw [hoff], fun i y hi2 hy => ?_⟩
      · dsimp only
        rw [List.getElem?_set_ne (by omega)]
        exact h3 i (by omega)
      · dsimp only
        by_cases he : i = k
        · subst he
          obtain rfl := Option.some.inj (hxl.symm.trans hy)
          rw [List.getElem?_set_self ha]
          unfold qsi
          rw [← h2, show b + 1 + 1 + 1 = b + 3 by omega, show b + 1 + 1 = b + 2 by omega]
        · rw [List.getElem?_set_ne (by omega)]; exact h4 i y (by omega) hy
    · rintro ⟨a, b⟩ ⟨h1, _, h2, h4⟩
      dsimp only at h1 h2 h4
      exact ⟨_, rfl, h2, h1, fun i x hx => h4 i x (List.getElem?_eq_some_iff.1 hx).1 hx⟩
  dsimp only at hv hlen hat
  refine ⟨v, l', h, ?_, by rw [hv]; unfold off; omega⟩
  simp only [GlHeldSightingS.P]
  refine cnt_is _ (fun k s => s = off l k) ?_ ?_ 1 (by unfold off; rw [tot_zero]; simp)
  · intro k s nx hk hI hn
    obtain ⟨x, hx, _⟩ := at_lt (l := l) (k := k) (by omega)
    obtain ⟨hm, hm2⟩ := htot hx
    have hkl := (List.getElem?_eq_some_iff.1 hx).1
    have hi : idx l' (k : Int) = some (qsi l k x) := by rw [idx_nat, hat k x hx]
    have hb : s = 1 + 3 * (k : Int) + (tot l k : Int) := by rw [hI]; rfl
    have w1 : IntKind.i64.wrap (s + 1) = s + 1 := wrap_in (by omega) (by omega)
    have w2 : IntKind.i64.wrap (s + 1 + 1) = s + 2 := by rw [wrap_in (by omega) (by omega)]; omega
    have w3 : IntKind.i64.wrap (s + 2 + 1) = s + 3 := by rw [wrap_in (by omega) (by omega)]; omega
    have m2 := txt_eq (k := s + 2) (by omega)
    have hq := heldIF x.traits.length (s + 3) (by omega) (by omega) (by omega)
    have hneg : ¬ s + 3 + (x.traits.length : Int) < 0 := by omega
    have hoff : off l (k + 1) = s + 3 + (x.traits.length : Int) := by unfold off; rw [hm]; omega
    have hn' := hn _ hoff.symm
    simp [GlHeldSightingS.l0, hi, unSighting, qsi, ← hI, w1, w2, w3, m2, hq, hneg, letK, iteK_if, appK]
    exact hn'
  · intro s hI
    simp only [GlHeldSightingS.e0, letK]
    rw [hI, hlen, hv]
end Go.Proofs.Ytpaakpbbahbhcaa.QHeldSighting

/- More words for plain functions: tuples of five to eight. No condition. -/
namespace Go.Proofs.Ytpaakpbbahbhcaa.GoP
set_option linter.unusedVariables false
open Go.RowKit
def unp5 {α β γ δ ε ρ : Type} (s : α × β × γ × δ × ε) (f : α → β → γ → δ → ε → Option ρ) : Option ρ := f s.1 s.2.1 s.2.2.1 s.2.2.2.1 s.2.2.2.2
def bind5 {α β γ δ ε ρ : Type} (x : Option (α × β × γ × δ × ε)) (f : α → β → γ → δ → ε → Option ρ) : Option ρ := match x with | none => none | some (x0, x1, x2, x3, x4) => f x0 x1 x2 x3 x4
def unp6 {α β γ δ ε ζ ρ : Type} (s : α × β × γ × δ × ε × ζ) (f : α → β → γ → δ → ε → ζ → Option ρ) : Option ρ := f s.1 s.2.1 s.2.2.1 s.2.2.2.1 s.2.2.2.2.1 s.2.2.2.2.2
def bind6 {α β γ δ ε ζ ρ : Type} (x : Option (α × β × γ × δ × ε × ζ)) (f : α → β → γ → δ → ε → ζ → Option ρ) : Option ρ := match x with | none => none | some (x0, x1, x2, x3, x4, x5) => f x0 x1 x2 x3 x4 x5
def unp7 {α β γ δ ε ζ η ρ : Type} (s : α × β × γ × δ × ε × ζ × η) (f : α → β → γ → δ → ε → ζ → η → Option ρ) : Option ρ := f s.1 s.2.1 s.2.2.1 s.2.2.2.1 s.2.2.2.2.1 s.2.2.2.2.2.1 s.2.2.2.2.2.2
def bind7 {α β γ δ ε ζ η ρ : Type} (x : Option (α × β × γ × δ × ε × ζ × η)) (f : α → β → γ → δ → ε → ζ → η → Option ρ) : Option ρ := match x with | none => none | some (x0, x1, x2, x3, x4, x5, x6) => f x0 x1 x2 x3 x4 x5 x6
def unp8 {α β γ δ ε ζ η θ ρ : Type} (s : α × β × γ × δ × ε × ζ × η × θ) (f : α → β → γ → δ → ε → ζ → η → θ → Option ρ) : Option ρ := f s.1 s.2.1 s.2.2.1 s.2.2.2.1 s.2.2.2.2.1 s.2.2.2.2.2.1 s.2.2.2.2.2.2.1 s.2.2.2.2.2.2.2
def bind8 {α β γ δ ε ζ η θ ρ : Type} (x : Option (α × β × γ × δ × ε × ζ × η × θ)) (f : α → β → γ → δ → ε → ζ → η → θ → Option ρ) : Option ρ := match x with | none => none | some (x0, x1, x2, x3, x4, x5, x6, x7) => f x0 x1 x2 x3 x4 x5 x6 x7
def unp9 {t0 t1 t2 t3 t4 t5 t6 t7 t8 ρ : Type} (s : t0 × t1 × t2 × t3 × t4 × t5 × t6 × t7 × t8) (f : t0 → t1 → t2 → t3 → t4 → t5 → t6 → t7 → t8 → Option ρ) : Option ρ := f s.1 s.2.1 s.2.2.1 s.2.2.2.1 s.2.2.2.2.1 s.2.2.2.2.2.1 s.2.2.2.2.2.2.1 s.2.2.2.2.2.2.2.1 s.2.2.2.2.2.2.2.2
def bind9 {t0 t1 t2 t3 t4 t5 t6 t7 t8 ρ : Type} (x : Option (t0 × t1 × t2 × t3 × t4 × t5 × t6 × t7 × t8)) (f : t0 → t1 → t2 → t3 → t4 → t5 → t6 → t7 → t8 → Option ρ) : Option ρ := match x with | none => none | some (x0, x1, x2, x3, x4, x5, x6, x7, x8) => f x0 x1 x2 x3 x4 x5 x6 x7 x8
def unp10 {t0 t1 t2 t3 t4 t5 t6 t7 t8 t9 ρ : Type} (s : t0 × t1 × t2 × t3 × t4 × t5 × t6 × t7 × t8 × t9) (f : t0 → t1 → t2 → t3 → t4 → t5 → t6 → t7 → t8 → t9 → Option ρ) : Option ρ := f s.1 s.2.1 s.2.2.1 s.2.2.2.1 s.2.2.2.2.1 s.2.2.2.2.2.1 s.2.2.2.2.2.2.1 s.2.2.2.2.2.2.2.1 s.2.2.2.2.2.2.2.2.1 s.2.2.2.2.2.2.2.2.2
def bind10 {t0 t1 t2 t3 t4 t5 t6 t7 t8 t9 ρ : Type} (x : Option (t0 × t1 × t2 × t3 × t4 × t5 × t6 × t7 × t8 × t9)) (f : t0 → t1 → t2 → t3 → t4 → t5 → t6 → t7 → t8 → t9 → Option ρ) : Option ρ := match x with | none => none | some (x0, x1, x2, x3, x4, x5, x6, x7, x8, x9) => f x0 x1 x2 x3 x4 x5 x6 x7 x8 x9
def unp11 {t0 t1 t2 t3 t4 t5 t6 t7 t8 t9 t10 ρ : Type} (s : t0 × t1 × t2 × t3 × t4 × t5 × t6 × t7 × t8 × t9 × t10) (f : t0 → t1 → t2 → t3 → t4 → t5 → t6 → t7 → t8 → t9 → t10 → Option ρ) : Option ρ := f s.1 s.2.1 s.2.2.1 s.2.2.2.1 s.2.2.2.2.1 s.2.2.2.2.2.1 s.2.2.2.2.2.2.1 s.2.2.2.2.2.2.2.1 s.2.2.2.2.2.2.2.2.1 s.2.2.2.2.2.2.2.2.2.1 s.2.2.2.2.2.2.2.2.2.2
def bind11 {t0 t1 t2 t3 t4 t5 t6 t7 t8 t9 t10 ρ : Type} (x : Option (t0 × t1 × t2 × t3 × t4 × t5 × t6 × t7 × t8 × t9 × t10)) (f : t0 → t1 → t2 → t3 → t4 → t5 → t6 → t7 → t8 → t9 → t10 → Option ρ) : Option ρ := match x with | none => none | some (x0, x1, x2, x3, x4, x5, x6, x7, x8, x9, x10) => f x0 x1 x2 x3 x4 x5 x6 x7 x8 x9 x10
def unp12 {t0 t1 t2 t3 t4 t5 t6 t7 t8 t9 t10 t11 ρ : Type} (s : t0 × t1 × t2 × t3 × t4 × t5 × t6 × t7 × t8 × t9 × t10 × t11) (f : t0 → t1 → t2 → t3 → t4 → t5 → t6 → t7 → t8 → t9 → t10 → t11 → Option ρ) : Option ρ := f s.1 s.2.1 s.2.2.1 s.2.2.2.1 s.2.2.2.2.1 s.2.2.2.2.2.1 s.2.2.2.2.2.2.1 s.2.2.2.2.2.2.2.1 s.2.2.2.2.2.2.2.2.1 s.2.2.2.2.2.2.2.2.2.1 s.2.2.2.2.2.2.2.2.2.2.1 s.2.2.2.2.2.2.2.2.2.2.2
def bind12 {t0 t1 t2 t3 t4 t5 t6 t7 t8 t9 t10 t11 ρ : Type} (x : Option (t0 × t1 × t2 × t3 × t4 × t5 × t6 × t7 × t8 × t9 × t10 × t11)) (f : t0 → t1 → t2 → t3 → t4 → t5 → t6 → t7 → t8 → t9 → t10 → t11 → Option ρ) : Option ρ := match x with | none => none | some (x0, x1, x2, x3, x4, x5, x6, x7, x8, x9, x10, x11) => f x0 x1 x2 x3 x4 x5 x6 x7 x8 x9 x10 x11
def unp13 {α0 α1 α2 α3 α4 α5 α6 α7 α8 α9 α10 α11 α12 ρ : Type} (s : α0 × α1 × α2 × α3 × α4 × α5 × α6 × α7 × α8 × α9 × α10 × α11 × α12) (f : α0 → α1 → α2 → α3 → α4 → α5 → α6 → α7 → α8 → α9 → α10 → α11 → α12 → Option ρ) : Option ρ := f s.1 s.2.1 s.2.2.1 s.2.2.2.1 s.2.2.2.2.1 s.2.2.2.2.2.1 s.2.2.2.2.2.2.1 s.2.2.2.2.2.2.2.1 s.2.2.2.2.2.2.2.2.1 s.2.2.2.2.2.2.2.2.2.1 s.2.2.2.2.2.2.2.2.2.2.1 s.2.2.2.2.2.2.2.2.2.2.2.1 s.2.2.2.2.2.2.2.2.2.2.2.2
def unp14 {α0 α1 α2 α3 α4 α5 α6 α7 α8 α9 α10 α11 α12 α13 ρ : Type} (s : α0 × α1 × α2 × α3 × α4 × α5 × α6 × α7 × α8 × α9 × α10 × α11 × α12 × α13) (f : α0 → α1 → α2 → α3 → α4 → α5 → α6 → α7 → α8 → α9 → α10 → α11 → α12 → α13 → Option ρ) : Option ρ := f s.1 s.2.1 s.2.2.1 s.2.2.2.1 s.2.2.2.2.1 s.2.2.2.2.2.1 s.2.2.2.2.2.2.1 s.2.2.2.2.2.2.2.1 s.2.2.2.2.2.2.2.2.1 s.2.2.2.2.2.2.2.2.2.1 s.2.2.2.2.2.2.2.2.2.2.1 s.2.2.2.2.2.2.2.2.2.2.2.1 s.2.2.2.2.2.2.2.2.2.2.2.2.1 s.2.2.2.2.2.2.2.2.2.2.2.2.2
def unp15 {α0 α1 α2 α3 α4 α5 α6 α7 α8 α9 α10 α11 α12 α13 α14 ρ : Type} (s : α0 × α1 × α2 × α3 × α4 × α5 × α6 × α7 × α8 × α9 × α10 × α11 × α12 × α13 × α14) (f : α0 → α1 → α2 → α3 → α4 → α5 → α6 → α7 → α8 → α9 → α10 → α11 → α12 → α13 → α14 → Option ρ) : Option ρ := f s.1 s.2.1 s.2.2.1 s.2.2.2.1 s.2.2.2.2.1 s.2.2.2.2.2.1 s.2.2.2.2.2.2.1 s.2.2.2.2.2.2.2.1 s.2.2.2.2.2.2.2.2.1 s.2.2.2.2.2.2.2.2.2.1 s.2.2.2.2.2.2.2.2.2.2.1 s.2.2.2.2.2.2.2.2.2.2.2.1 s.2.2.2.2.2.2.2.2.2.2.2.2.1 s.2.2.2.2.2.2.2.2.2.2.2.2.2.1 s.2.2.2.2.2.2.2.2.2.2.2.2.2.2
def unp16 {α0 α1 α2 α3 α4 α5 α6 α7 α8 α9 α10 α11 α12 α13 α14 α15 ρ : Type} (s : α0 × α1 × α2 × α3 × α4 × α5 × α6 × α7 × α8 × α9 × α10 × α11 × α12 × α13 × α14 × α15) (f : α0 → α1 → α2 → α3 → α4 → α5 → α6 → α7 → α8 → α9 → α10 → α11 → α12 → α13 → α14 → α15 → Option ρ) : Option ρ := f s.1 s.2.1 s.2.2.1 s.2.2.2.1 s.2.2.2.2.1 s.2.2.2.2.2.1 s.2.2.2.2.2.2.1 s.2.2.2.2.2.2.2.1 s.2.2.2.2.2.2.2.2.1 s.2.2.2.2.2.2.2.2.2.1 s.2.2.2.2.2.2.2.2.2.2.1 s.2.2.2.2.2.2.2.2.2.2.2.1 s.2.2.2.2.2.2.2.2.2.2.2.2.1 s.2.2.2.2.2.2.2.2.2.2.2.2.2.1 s.2.2.2.2.2.2.2.2.2.2.2.2.2.2.1 s.2.2.2.2.2.2.2.2.2.2.2.2.2.2.2
def unp17 {α0 α1 α2 α3 α4 α5 α6 α7 α8 α9 α10 α11 α12 α13 α14 α15 α16 ρ : Type} (s : α0 × α1 × α2 × α3 × α4 × α5 × α6 × α7 × α8 × α9 × α10 × α11 × α12 × α13 × α14 × α15 × α16) (f : α0 → α1 → α2 → α3 → α4 → α5 → α6 → α7 → α8 → α9 → α10 → α11 → α12 → α13 → α14 → α15 → α16 → Option ρ) : Option ρ := f s.1 s.2.1 s.2.2.1 s.2.2.2.1 s.2.2.2.2.1 s.2.2.2.2.2.1 s.2.2.2.2.2.2.1 s.2.2.2.2.2.2.2.1 s.2.2.2.2.2.2.2.2.1 s.2.2.2.2.2.2.2.2.2.1 s.2.2.2.2.2.2.2.2.2.2.1 s.2.2.2.2.2.2.2.2.2.2.2.1 s.2.2.2.2.2.2.2.2.2.2.2.2.1 s.2.2.2.2.2.2.2.2.2.2.2.2.2.1 s.2.2.2.2.2.2.2.2.2.2.2.2.2.2.1 s.2.2.2.2.2.2.2.2.2.2.2.2.2.2.2.1 s.2.2.2.2.2.2.2.2.2.2.2.2.2.2.2.2
def unp18 {α0 α1 α2 α3 α4 α5 α6 α7 α8 α9 α10 α11 α12 α13 α14 α15 α16 α17 ρ : Type} (s : α0 × α1 × α2 × α3 × α4 × α5 × α6 × α7 × α8 × α9 × α10 × α11 × α12 × α13 × α14 × α15 × α16 × α17) (f : α0 → α1 → α2 → α3 → α4 → α5 → α6 → α7 → α8 → α9 → α10 → α11 → α12 → α13 → α14 → α15 → α16 → α17 → Option ρ) : Option ρ := f s.1 s.2.1 s.2.2.1 s.2.2.2.1 s.2.2.2.2.1 s.2.2.2.2.2.1 s.2.2.2.2.2.2.1 s.2.2.2.2.2.2.2.1 s.2.2.2.2.2.2.2.2.1 s.2.2.2.2.2.2.2.2.2.1 s.2.2.2.2.2.2.2.2.2.2.1 s.2.2.2.2.2.2.2.2.2.2.2.1 s.2.2.2.2.2.2.2.2.2.2.2.2.1 s.2.2.2.2.2.2.2.2.2.2.2.2.2.1 s.2.2.2.2.2.2.2.2.2.2.2.2.2.2.1 s.2.2.2.2.2.2.2.2.2.2.2.2.2.2.2.1 s.2.2.2.2.2.2.2.2.2.2.2.2.2.2.2.2.1 s.2.2.2.2.2.2.2.2.2.2.2.2.2.2.2.2.2
end Go.Proofs.Ytpaakpbbahbhcaa.GoP

/- Chapter 13: a sighting is added: the plain functions of the program and of the reference agree, and the law answers true. (QL13Add) No condition but those of each theorem. -/
namespace Go.Proofs.Ytpaakpbbahbhcaa.QL13Add
set_option linter.unusedVariables false
set_option linter.unusedSimpArgs false
open Go.RowKit
open Go.Proofs.Ytpaakpbbahbhcaa.GoP Go.Proofs.Ytpaakpbbahbhcaa.PlainStamp Go.Proofs.Ytpaakpbbahbhcaa.QBase Go.Proofs.Ytpaakpbbahbhcaa.Q13Add Go.Proofs.Ytpaakpbbahbhcaa.Q13List Go.Proofs.Ytpaakpbbahbhcaa.Q13One Go.Proofs.Ytpaakpbbahbhcaa.QF13 Go.Proofs.Ytpaakpbbahbhcaa.QLoop Go.Proofs.Ytpaakpbbahbhcaa.QInt Go.Proofs.Ytpaakpbbahbhcaa.QToI Go.Proofs.Ytpaakpbbahbhcaa.PSighting Go.Proofs.Ytpaakpbbahbhcaa.QHVSightingE Go.Proofs.Ytpaakpbbahbhcaa.QHVSighting Go.Proofs.Ytpaakpbbahbhcaa.QHeldSighting

theorem small_add {l : List Sighting} (h : okSis l = true) : small l := by
  have hlen := okSis_len h
  have key : ∀ k, k ≤ l.length → tot l k ≤ 8 * k := by
    intro k
    induction k with
    | zero => intro _; simp [tot]
    | succ k ih =>
      intro hk
      obtain ⟨x, hx, _⟩ := at_lt (l := l) (k := k) (by omega)
      have := (okSi_of (okSis_at h (List.mem_of_getElem? hx))).2.2.2.1
      rw [tot_next hx]; have := ih (by omega); omega
  have := key l.length (Nat.le_refl _)
  unfold small; omega
theorem law_add (l : List Sighting) (year : Int) (town : ByteArray) (tr : List Int) (hF : ∀ s ∈ l, Go.Proofs.Ytpaakpbbahbhcaa.OVSighting.Fits s) (hl : l.length ≤ 9223372036854775807) (hr : tr.length ≤ 9223372036854775807) : GlFnExactAddSighting.P l year town tr = some true := by
  have hf : ∀ s ∈ l, sz13 s := fun s hs => fits_sz (hF s hs)
  obtain ⟨v, hv, hn⟩ := szS l hf hl
  simp only [GlFnExactAddSighting.P, letK, iteK_if]
  by_cases ht : (1048576 : Int) < (town.size : Int)
  · rw [if_pos (by simpa using ht)]
  rw [if_neg (by simpa using ht)]
  by_cases hr0 : (1048576 : Int) < (tr.length : Int)
  · rw [if_pos (by simpa using hr0)]
  rw [if_neg (by simpa using hr0)]
  simp only [hv, Option.bind_some]
  by_cases hb : v < 0
  · rw [if_pos (by simpa using hb)]
  rw [if_neg (by simpa using hb)]
  have hsm := hn (by omega)
  have hlen := small_len hsm
  obtain ⟨b1, b2⟩ := add_both l year town tr hlen
  rw [j_impl l _ year town tr hlen] at b1
  rw [j_spec l _ year town tr hlen (by omega) (by omega) hf (fun s hs => small_row hsm hs)] at b2
  obtain ⟨⟨a, b, c⟩, hx⟩ : ∃ x, x = addJ l (nid l) year town tr := ⟨_, rfl⟩
  have hsa : small a := by
    unfold addJ at hx
    split at hx
    · rename_i h; rw [show a = _ from (Prod.mk.inj hx).1]; exact small_add h
    · rw [show a = _ from (Prod.mk.inj hx).1]; unfold small tot; simp
  rw [← hx] at b1 b2
  obtain ⟨v2, l2, hm, hv2⟩ := markF l 1 (by omega) (by omega) hsm
  have hmi := markIF tr v2 (by unfold small at hsm; omega) (by unfold small at hsm; omega) (by omega)
  obtain ⟨v3, l3, hm3, hh3, hv3⟩ := markHeld a hsa
  have hv4 : ¬ v2 + (tr.length : Int) < 0 := by omega
  have hv5 : ¬ v3 < 0 := by omega
  simp [toS l hsm, toI tr (by omega), b1, b2, bind2, bind3, joinK, appK, iteK_if, letK, eqS, eqI, hm, hmi, hv4, hm3, hh3, hv5]
end Go.Proofs.Ytpaakpbbahbhcaa.QL13Add

