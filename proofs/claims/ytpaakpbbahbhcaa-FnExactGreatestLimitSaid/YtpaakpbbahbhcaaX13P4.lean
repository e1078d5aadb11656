/- Texts on which the proofs of several laws stand, one behind the other (4 of 20). No condition of their own. -/
import Derived.Test.YtpaakpbbahbhcaaChecked
import Derived.Test.YtpaakpbbahbhcaaX13P1
import Derived.Lib.SmallJoins
import Derived.Deep.Slices
import Derived.Deep.Fields
import Derived.ChangeSame
import Derived.SliceStrings
import Derived.ChangeSlices
import Derived.Test.YtpaakpbbahbhcaaX13P2
import Derived.Test.YtpaakpbbahbhcaaX13P3
import Derived.WalkKit
import Derived.WalkSpells
import Derived.WalkLawsBesides
import Derived.BigQuiet
import Derived.OwnWalk
import Derived.Deep.LoopGhost
import Derived.Deep.QuietTactic
import Derived.IntWalk
import Derived.Lib.QuietBelow
/- How a struct of one-cell fields that comes in as data is opened, whatever the number of its fields; lists by their members. No condition. -/
namespace Go.Proofs.Ytpaakpbbahbhcaa.OpenAny
set_option linter.unusedVariables false
open Go.Joins Go.ChangeShapes Go.WideShapes Go.RowKit Go.Deep

theorem add_none (b o n : Nat) : (⟨b, o, none⟩ : Addr).add n = ⟨b, o + n, none⟩ := by
  unfold Addr.add; split
  · rename_i h; subst h; rfl
  · rfl
section
variable {H : Type} {enc : TypeId × Value → H} {P : Program} {w : World} {base : Nat} {spare : Nat → Bool} {held : Bool}
/-- each field reads on its own -/
theorem read_fields {t : TypeId} {fs : Array Field} {fuel : Nat} {cs : List Value} {x : DataW H × List MemPlace} (hs : P.underlying t = some (.struct fs)) (hone : oneCellFields P fs = true) (hC : P.cellsOf t = fs.size)
    (h : DataW.trod enc P w base spare held fuel t cs = some x) :
    cs.length = P.cellsOf t ∧ ∀ (j : Nat) (f : Field), fs[j]? = some f → ∃ (u : Value) (n : Nat) (y : DataW H × List MemPlace), cs[j]? = some u ∧ DataW.trod enc P w base spare held n f.type [u] = some y := by
  obtain ⟨xs, n, _, _, hlen, hxl, hg⟩ := DataW.trod_struct hs h
  refine ⟨hlen, fun j f hj => ?_⟩
  obtain ⟨ho, hk⟩ := hone_of hone j f hj
  have hjl : j < fs.size := (Array.getElem?_eq_some_iff.1 hj).1
  have h1 := hg j f hj
  rw [ho, hk, List.getElem?_eq_getElem (by omega : j < xs.length)] at h1
  have hc : j < cs.length := by omega
  rw [List.drop_eq_getElem_cons hc] at h1
  exact ⟨cs[j], n, _, List.getElem?_eq_getElem hc, h1⟩
end
/-- a list by its members -/
theorem list_of {α : Type} (p : Nat → α → Prop) : ∀ (n : Nat), (∀ k, k < n → ∃ a, p k a) → ∃ l : List α, l.length = n ∧ ∀ k a, l[k]? = some a → p k a
  | 0, _ => ⟨[], rfl, fun k a h => by simp at h⟩
  | n + 1, h => by
    obtain ⟨l, hl, hp⟩ := list_of p n (fun k hk => h k (by omega))
    obtain ⟨a, ha⟩ := h n (by omega)
    refine ⟨l ++ [a], by simp [hl], fun k b hb => ?_⟩
    by_cases hk : k < n
    · rw [List.getElem?_append_left (by omega)] at hb; exact hp k b hb
    · have hk' : k < (l ++ [a]).length := (List.getElem?_eq_some_iff.1 hb).1
      simp [hl] at hk'
      obtain rfl : k = n := by omega
      rw [List.getElem?_append_right (by omega), hl, Nat.sub_self] at hb
      obtain rfl : a = b := by simpa using hb
      exact ha
end Go.Proofs.Ytpaakpbbahbhcaa.OpenAny

/- A slice of strings or of integers that lies in a record that came in: the list that it reads as. No condition. -/
namespace Go.Proofs.Ytpaakpbbahbhcaa.OpenNest
set_option linter.unusedVariables false
open Go.Joins Go.ChangeShapes Go.WideShapes Go.RowKit Go.Deep Go.Proofs.Ytpaakpbbahbhcaa.Rowed
section
variable {H : Type} {enc : TypeId × Value → H} {P : Program} {w : World}
end
end Go.Proofs.Ytpaakpbbahbhcaa.OpenNest

/- A slice of records Sighting that came in, each of which holds a row: the list that it reads as. No condition. -/
namespace Go.Proofs.Ytpaakpbbahbhcaa.OVSighting
set_option linter.unusedVariables false
set_option maxRecDepth 100000
open Go.Joins Go.ChangeShapes Go.WideShapes Go.RowKit Go.Deep Go.Proofs.Ytpaakpbbahbhcaa.Rowed Go.Proofs.Ytpaakpbbahbhcaa.OpenAny Go.Proofs.Ytpaakpbbahbhcaa.GoV Go.Proofs.Ytpaakpbbahbhcaa.GoM Go.Proofs.Ytpaakpbbahbhcaa.GoVSighting Go.Proofs.Ytpaakpbbahbhcaa.PSighting

def Fits (s : Sighting) : Prop := (Lit.int .i64 s.id).wf = true ∧ (Lit.int .i64 s.year).wf = true ∧ s.town.size ≤ maxLen ∧ (s.traits.length ≤ maxLen ∧ ∀ n ∈ s.traits, (Lit.int .i64 n).wf = true)
structure Came (w : World) (A : Option Addr) (len cap : Nat) (l : List Sighting) : Prop where
  reads : ReadNest w lay A l
  long : l.length = len
  small : len ≤ maxLen
  fits : ∀ s ∈ l, Fits s
section
variable {H : Type} {enc : TypeId × Value → H} {P : Program} {w : World}
theorem ints_in {t e : TypeId} {fuel : Nat} {u : Value} {x : DataW H × List MemPlace} (ht : P.underlying t = some (.slice e)) (he : P.underlying e = some (.int .i64)) (hc : P.cellsOf e = 1)
    (h : DataW.trod enc P w 0 (fun _ => true) true fuel t [u] = some x) :
    ∃ (a : Option Addr) (cap : Nat) (l : List Int), u = .slice a l.length cap ∧ Cells w 1 a l.length (Go.Proofs.Ytpaakpbbahbhcaa.HelpInt.iv l) ∧ Room a l.length cap ∧ l.length ≤ maxLen ∧ ∀ n ∈ l, (Lit.int .i64 n).wf = true := by
  rcases open_ints ht he hc h with ⟨hcs, _⟩ | ⟨x, l, c, zs, hcs, hxb, hl, hm, hz, hdat, hcell, hwz⟩
  · obtain rfl : u = .slice none 0 0 := by simpa using hcs
    exact ⟨none, 0, [], rfl, Cells.nil_ _ _ _, ⟨Nat.le_refl _, fun _ => rfl⟩, by unfold maxLen; simp, by intro s hs; simp at hs⟩
  · obtain rfl : u = .slice (some x) l c := by simpa using hcs
    have hz' : zs.length = c := by simpa using hz
    have hn : (zs.take l).length = l := by rw [List.length_take]; omega
    refine ⟨some x, c, zs.take l, by rw [hn], ⟨by unfold Go.Proofs.Ytpaakpbbahbhcaa.HelpInt.iv; rw [List.length_map]; omega, fun _ => ⟨x, rfl, fun j u hu => ?_⟩⟩, ⟨by rw [hn]; omega, fun e => by simp at e⟩, by rw [hn]; omega, fun s hs => hwz s (List.mem_of_mem_take hs)⟩
    unfold Go.Proofs.Ytpaakpbbahbhcaa.HelpInt.iv at hu
    rw [List.getElem?_map] at hu
    cases hj : (zs.take l)[j]? with
    | none => rw [hj] at hu; simp at hu
    | some y =>
      rw [hj] at hu
      obtain rfl : Value.int .i64 y = u := by simpa using hu
      have hjl := (List.getElem?_eq_some_iff.1 hj).1
      rw [List.length_take] at hjl
      rw [List.getElem?_take_of_lt (by omega)] at hj
      rw [hcell j (by omega), List.getD_eq_getElem?_getD, hj]; rfl
theorem read_one {n : Nat} {cs : List Value} {x : DataW H × List MemPlace} (h : DataW.trod enc Try.prog w 0 (fun _ => true) true n 81 cs = some x) : ∃ (s : Sighting) (z : Option Addr × Nat), cs = lay.enc s z ∧ Held w lay z s ∧ Fits s := by
  have hc : Try.prog.cellsOf 81 = 4 := by kernel_rfl
  obtain ⟨hl, hf⟩ := read_fields Try.underlying81 (by kernel_rfl) hc h
  rw [hc] at hl
  match cs, hl with
  | [v0, v1, v2, v3], _ =>
    obtain ⟨u0, n0, y0, eu0, t0⟩ := hf 0 _ rfl
    obtain rfl : v0 = u0 := by simpa using eu0
    obtain ⟨x0, e0, _, f0⟩ := DataW.trod_int Try.underlying3 t0
    obtain rfl : v0 = .int .i64 x0 := by simpa using e0
    obtain ⟨u1, n1, y1, eu1, t1⟩ := hf 1 _ rfl
    obtain rfl : v1 = u1 := by simpa using eu1
    obtain ⟨x1, e1, _, f1⟩ := DataW.trod_int Try.underlying3 t1
    obtain rfl : v1 = .int .i64 x1 := by simpa using e1
    obtain ⟨u2, n2, y2, eu2, t2⟩ := hf 2 _ rfl
    obtain rfl : v2 = u2 := by simpa using eu2
    obtain ⟨x2, e2, _, f2⟩ := DataW.trod_string Try.underlying9 t2
    obtain rfl : v2 = .string x2 := by simpa using e2
    obtain ⟨u3, n3, y3, eu3, t3⟩ := hf 3 _ rfl
    obtain rfl : v3 = u3 := by simpa using eu3
    obtain ⟨ax, cx, x3, rfl, hx, rx, mx, fx⟩ := ints_in Try.underlying32 Try.underlying3 (by kernel_rfl) t3
    exact ⟨⟨x0, x1, x2, x3⟩, (ax, cx), rfl, ⟨hx, rx, by have h_ : x3.length ≤ maxLen := mx; unfold maxLen at h_; show x3.length ≤ _; omega⟩, f0, f1, f2, ⟨mx, fx⟩⟩
theorem open_many {a : Option Addr} {len cap : Nat} {d : DataW H} {p : List MemPlace}
    (h : DataW.Trod enc Try.prog w 0 (fun _ => true) true 41 (.slice a len cap) d p) : ∃ l : List Sighting, Came w a len cap l := by
  obtain ⟨fuel, hf⟩ := h
  have ck : Try.prog.cellsOf 81 = 4 := by kernel_rfl
  rcases open_slice Try.underlying41 hf with ⟨hcs, _⟩ | ⟨x, ln, cp, m, n, D, Pl, hcs, hb, hl, hm, hmm, _, hi⟩
  · have e : (Value.slice a len cap) = .slice none 0 0 := by simpa [Value.cells] using hcs
    simp only [Value.slice.injEq] at e
    obtain ⟨rfl, rfl, rfl⟩ := e
    exact ⟨[], ⟨[], rfl, Cells.nil_ _ _ _, by intro i x h hx; simp at hx⟩, rfl, by unfold maxLen; omega, by intro s hs; simp at hs⟩
  · have e : (Value.slice a len cap) = .slice (some x) ln cp := by simpa [Value.cells] using hcs
    simp only [Value.slice.injEq] at e
    obtain ⟨rfl, rfl, rfl⟩ := e
    simp only [if_true] at hmm
    subst hmm
    rw [ck] at hi
    obtain ⟨l, hll, hp⟩ := list_of (fun k (s : Sighting × (Option Addr × Nat)) => Fits s.1 ∧ Held w lay s.2 s.1 ∧ ∀ j, j < 4 → w.cell? (x.add (k * 4 + j)) = (lay.enc s.1 s.2)[j]?) len (fun k hk => by
      obtain ⟨cs', hc, ht⟩ := hi k (by omega)
      obtain ⟨s, z, rfl, hh, hfit⟩ := read_one ht
      refine ⟨(s, z), hfit, hh, fun j hj => ?_⟩
      have := (World.cells?_some hc).2.2 j hj
      rw [Go.Deep.add_add] at this
      exact this)
    have hz : (l.map (·.1)).zip (l.map (·.2)) = l := by rw [List.zip_map', List.map_id']
    have hm1 : ∀ (i : Nat) s z, (l.map (·.1))[i]? = some s → (l.map (·.2))[i]? = some z → l[i]? = some (s, z) := by
      intro i s z hs hz'
      rw [List.getElem?_map] at hs hz'
      cases hli : l[i]? with
      | none => rw [hli] at hs; simp at hs
      | some q => rw [hli] at hs hz'; simp at hs hz'; rw [← hs, ← hz']
    refine ⟨l.map (·.1), ⟨l.map (·.2), by simp, ⟨?_, fun h0 => ⟨x, rfl, fun j u hu => ?_⟩⟩, fun i s z hs hz' => (hp i _ (hm1 i s z hs hz')).2.1⟩, by simp [hll], by omega, fun s hs => ?_⟩
    · rw [cellsOf_len (by simp), List.length_map, hll]
    · unfold cellsOf at hu
      rw [hz] at hu
      have hlen : (l.flatMap fun p => lay.enc p.1 p.2).length = l.length * 4 := flat_len (fun p => lay.len p.1 p.2) l
      have hj : j < l.length * 4 := by rw [← hlen]; exact (List.getElem?_eq_some_iff.1 hu).1
      have hk : j / 4 < l.length := by omega
      have hx := List.getElem?_eq_getElem hk
      have h2 := (hp (j / 4) _ hx).2.2 (j % 4) (by omega)
      rw [show j / 4 * 4 + j % 4 = j by omega] at h2
      rw [h2]
      have hlt : j % 4 < (lay.enc l[j / 4].1 l[j / 4].2).length := by rw [lay.len]; show j % 4 < 4; omega
      have h3 := flat_at (f := fun p : Sighting × (Option Addr × Nat) => lay.enc p.1 p.2) (K := 4) (fun p => lay.len p.1 p.2) l (j / 4) (j % 4) _ _ hx (List.getElem?_eq_getElem hlt)
      rw [show j / 4 * 4 + j % 4 = j by omega, hu] at h3
      rw [h3]; exact List.getElem?_eq_getElem hlt
    · obtain ⟨q, hq, rfl⟩ := List.mem_map.1 hs
      obtain ⟨k, hk⟩ := List.getElem?_of_mem hq
      exact (hp k _ hk).1
end
end Go.Proofs.Ytpaakpbbahbhcaa.OVSighting

/- Chapter 13: censuses: the plain functions of the program and of the reference agree, and the laws answer true. (QF13) No condition but those of each theorem. -/
namespace Go.Proofs.Ytpaakpbbahbhcaa.QF13
set_option linter.unusedVariables false
set_option linter.unusedSimpArgs false
open Go.RowKit
open Go.Proofs.Ytpaakpbbahbhcaa.GoP Go.Proofs.Ytpaakpbbahbhcaa.PlainStamp Go.Proofs.Ytpaakpbbahbhcaa.QBase Go.Proofs.Ytpaakpbbahbhcaa.Q13One Go.Proofs.Ytpaakpbbahbhcaa.PSighting

theorem fits_sz {s : Sighting} (h : Go.Proofs.Ytpaakpbbahbhcaa.OVSighting.Fits s) : sz13 s := by
  obtain ⟨a, b, c, d⟩ := s
  obtain ⟨_, _, h1, h2, _⟩ := h
  unfold maxLen at h1 h2
  exact ⟨h1, h2⟩
end Go.Proofs.Ytpaakpbbahbhcaa.QF13

/- loop.example/g01062/laws.markIntS as a plain function, and the contract of the program's: where the plain one has an answer, the program has it. Conditions: slices read as lists. -/
namespace Go.Proofs.Ytpaakpbbahbhcaa.GlMarkIntS
set_option linter.unusedVariables false
set_option linter.unusedSimpArgs false
open Go.RowKit
open Go.Proofs.Ytpaakpbbahbhcaa.Rowed Go.Proofs.Ytpaakpbbahbhcaa.Turn Go.Proofs.Ytpaakpbbahbhcaa.Aid Go.Proofs.Ytpaakpbbahbhcaa.GoP Go.Proofs.Ytpaakpbbahbhcaa.GoM

def l0  (k0 : Nat) (s : (List Int) × Int) (nx0 bk0 : (List Int) × Int → Option (Int × (List Int))) : Option (Int × (List Int)) :=
  unp2 s fun a_0l0 k_1l0 =>
  Option.bind (idx a_0l0 (k0 : Int)) fun (yt_9 : Int) =>
  letK (a_0l0.set k0 k_1l0) fun (l10_10 : (List Int)) =>
  letK (IntKind.i64.wrap (k_1l0 + 1)) fun (t_12 : Int) =>
  appK nx0 (l10_10, t_12)

def e0  (s : (List Int) × Int) : Option (Int × (List Int)) :=
  unp2 s fun a_0l0 k_1l0 =>
  some (k_1l0, a_0l0)

def P (a : (List Int)) (k_1 : Int) : Option (Int × (List Int)) :=
  cntK (l0 ) (a.length) 0 (a, k_1) (e0 )

set_option maxRecDepth 100000 in
set_option maxHeartbeats 2000000 in
theorem C (a : (List Int)) (k_1 : Int) (A0 : Option Addr) (c0 : Nat)  (b0 : Nat) (w : World) (M0 : Hid (w.ownsRow b0 3 1 (.slice A0 a.length c0) a.length (Go.Proofs.Ytpaakpbbahbhcaa.HelpInt.iv a))) (N0 : Hid (a.length ≤ 9223372036854775807))  {r : Int} {l_ : (List Int)} (H : Hid (P a k_1 = some (r, l_))) :
    Calls Try.prog 38 #[.slice A0 a.length c0, .int .i64 k_1] w (fun e w' => e = .returned (.int .i64 r) ∧ w'.ownsRow b0 3 1 (.slice A0 a.length c0) a.length (Go.Proofs.Ytpaakpbbahbhcaa.HelpInt.iv l_) ∧ l_.length = a.length ∧ w.grownBy w' (Value.slice A0 a.length c0).ownBlock) := by
  have HB := Lib.hid (Aid.grown_refl w (Value.slice A0 a.length c0).ownBlock)
  unfold P at H
  have N0o := N0.out
  go_enter Try.func38, Try.ntmps38
  go_wp2_with fail
  have hb_0 : a.length ≤ 9223372036854775807 := own_max M0.out
  go_wp2_with fail
  go_loopg [5, 1] (a.length) (fun m_ v5_ v1_ wr => ∃ (k0 : Nat) (a_0l0 : (List Int)) (k_1l0 : Int), k0 + m_ = a.length ∧ v5_ = .int .i64 (k0 : Int) ∧ v1_ = .int .i64 k_1l0 ∧ Hid (cntK (l0 ) m_ k0 (a_0l0, k_1l0) (e0 ) = some (r, l_)) ∧ Hid (w.grownBy wr (Value.slice A0 a.length c0).ownBlock) ∧ Hid (wr.ownsRow b0 3 1 (.slice A0 a.length c0) a.length (Go.Proofs.Ytpaakpbbahbhcaa.HelpInt.iv a_0l0)) ∧ Hid (a_0l0.length = a.length))
  case atStart => exact ⟨0, _, _, by omega, rfl, rfl, H, HB, M0, Lib.hid (rfl)⟩
  case round =>
    obtain ⟨k0, a_0l0, k_1l0, hkm0, rfl, rfl, H, HBwr0, Oa_0l0, hna_0l0⟩ := hrel
    rename World => wr0
    cases gk with
    | zero =>
      obtain rfl : k0 = a.length := by omega
      have hc0 : decide (((a.length : Nat) : Int) < ((a.length : Nat) : Int)) = false := by simp
      replace H := cnt_zero H
      unfold e0 at H
      replace H := unp2_hid H
      cases ret_hid H
      go_wp2_with fail
      go_ret
      exact ⟨rfl, Oa_0l0.out, hna_0l0.out, HBwr0.out⟩
    | succ m0 =>
      have hlt0 : k0 < a.length := by omega
      have hc0 : decide ((k0 : Int) < ((a.length : Nat) : Int)) = true := by simp; omega
      replace H := cnt_succ H
      unfold l0 at H
      replace H := unp2_hid H
      replace H := idx_hid H
      obtain ⟨nt_9, yt_9, et_9, lt_9, gt_9, H⟩ := H
      obtain rfl : k0 = nt_9 := by omega
      clear et_9
      have hqt_9 := hna_0l0.out
      obtain ⟨qt_9, Qt_9⟩ := own_some Oa_0l0.out (by omega)
      subst Qt_9
      obtain ⟨ab_t_9, ao_t_9, zt_9, At_9, z_t_9, ct_9_0⟩ := Go.Proofs.Ytpaakpbbahbhcaa.HelpInt.Ints.at_ (own_cells Oa_0l0.out) (k := k0) (by omega)
      obtain rfl := Option.some.inj (gt_9.out.symm.trans z_t_9)
      simp only [Option.some.injEq, Addr.mk.injEq] at At_9
      obtain ⟨rfl, rfl, _⟩ := At_9
      clear z_t_9
      simp only [Nat.zero_add] at ct_9_0
      have b0t_9 : (0 : Int) ≤ (k0 : Int) := by omega
      have b1t_9 : (k0 : Int) < ((a.length : Nat) : Int) := by omega
      have b2t_9 : ((k0 : Int)).toNat = k0 := by omega
      clear hqt_9
      replace H := let_hid H
      obtain ⟨l10_10, hl10_10, H⟩ := H
      try simp only [Int.toNat_natCast] at hl10_10
      obtain ⟨wl10_10, hwl10_10⟩ : ∃ x, (wr0).setCell ⟨qt_9, k0, none⟩ (.int .i64 k_1l0) = x := ⟨_, rfl⟩
      have z0l10_10 := Oa_0l0.out.frozenAt (k0)
      have Sl10_10 := Lib.hid (own_stores [(k0, .int .i64 k_1l0)] Oa_0l0.out)
      have nl10_10 : Hid (l10_10.length = a.length) := Lib.hid (by rw [← hl10_10, List.length_set]; exact hna_0l0.out)
      have Pl10_10 : Hid (wl10_10.ownsRow b0 3 1 (.slice (some ⟨qt_9, 0, none⟩) a.length c0) a.length (Go.Proofs.Ytpaakpbbahbhcaa.HelpInt.iv l10_10)) := Lib.hid (by have e_ : ([(k0, .int .i64 k_1l0)] : List (Nat × Value)).foldl (fun xs p => xs.set p.1 p.2) (Go.Proofs.Ytpaakpbbahbhcaa.HelpInt.iv a_0l0) = (Go.Proofs.Ytpaakpbbahbhcaa.HelpInt.iv l10_10) := (by rw [← hl10_10]; first | done | simp [Go.Proofs.Ytpaakpbbahbhcaa.HelpInt.iv, List.map_set]); rw [← hwl10_10, ← e_]; exact Sl10_10.out.1)
      have Gl10_10 : Hid (wr0.grownBy wl10_10 (Value.slice (some ⟨qt_9, 0, none⟩) a.length c0).ownBlock) := Lib.hid (by rw [← hwl10_10]; exact Sl10_10.out.2)
      have HBwl10_10 := Lib.hid (Aid.grown_tr HBwr0.out Gl10_10.out)
      have hhl10_10 := Lib.hid hl10_10
      clear hl10_10 Sl10_10
      clear Oa_0l0 Gl10_10
      replace H := let_hid H
      obtain ⟨t_12, ht_12, H⟩ := H
      replace H := app_hid H
      go_wp2_with fail
      clear z0l10_10 ct_9_0
      go_roundg m0
      case measure => omega
      case rel => exact ⟨k0 + 1, _, _, by omega, by go_num, rfl, H, HBwl10_10, Pl10_10, Lib.hid (nl10_10.out)⟩
end Go.Proofs.Ytpaakpbbahbhcaa.GlMarkIntS

/- loop.example/g01062/laws.heldIntS as a plain function, and the contract of the program's: where the plain one has an answer, the program has it. Conditions: slices read as lists. -/
namespace Go.Proofs.Ytpaakpbbahbhcaa.GlHeldIntS
set_option linter.unusedVariables false
set_option linter.unusedSimpArgs false
open Go.RowKit
open Go.Proofs.Ytpaakpbbahbhcaa.Rowed Go.Proofs.Ytpaakpbbahbhcaa.Turn Go.Proofs.Ytpaakpbbahbhcaa.Aid Go.Proofs.Ytpaakpbbahbhcaa.GoP Go.Proofs.Ytpaakpbbahbhcaa.GoM

def l0 (a : (List Int)) (k0 : Nat) (s : Int) (nx0 bk0 : Int → Option (Int)) : Option (Int) :=
  letK s fun k_1l0 =>
  Option.bind (idx a (k0 : Int)) fun (yt_8 : Int) =>
  letK (yt_8 != k_1l0) fun (t_11 : Bool) =>
  iteK t_11
  (some (-1))
  (letK (IntKind.i64.wrap (k_1l0 + 1)) fun (t_14 : Int) =>
  appK nx0 (t_14))

def e0  (s : Int) : Option (Int) :=
  letK s fun k_1l0 =>
  some k_1l0

def P (a : (List Int)) (k_1 : Int) : Option (Int) :=
  cntK (l0 a) (a.length) 0 (k_1) (e0 )

set_option maxRecDepth 100000 in
set_option maxHeartbeats 2000000 in
theorem C (a : (List Int)) (k_1 : Int) (A0 : Option Addr) (c0 : Nat)  (w : World) (M0 : Hid (Cells w 1 A0 a.length (Go.Proofs.Ytpaakpbbahbhcaa.HelpInt.iv a))) (N0 : Hid (a.length ≤ 9223372036854775807))  {r : Int} (H : Hid (P a k_1 = some r)) :
    Calls Try.prog 39 #[.slice A0 a.length c0, .int .i64 k_1] w (Gives (.int .i64 r) w) := by
  have HB := Lib.hid (Below.refl w.heap.size w)
  unfold P at H
  have N0o := N0.out
  go_enter Try.func39, Try.ntmps39
  go_wp2_with fail
  go_loopg [5, 1] (a.length) (fun m_ v5_ v1_ wr => ∃ (k0 : Nat) (k_1l0 : Int), k0 + m_ = a.length ∧ v5_ = .int .i64 (k0 : Int) ∧ v1_ = .int .i64 k_1l0 ∧ Hid (cntK (l0 a) m_ k0 (k_1l0) (e0 ) = some r) ∧ Hid (Below w.heap.size w wr))
  case atStart => exact ⟨0, _, by omega, rfl, rfl, H, HB⟩
  case round =>
    obtain ⟨k0, k_1l0, hkm0, rfl, rfl, H, HBwr0⟩ := hrel
    rename World => wr0
    cases gk with
    | zero =>
      obtain rfl : k0 = a.length := by omega
      have hc0 : decide (((a.length : Nat) : Int) < ((a.length : Nat) : Int)) = false := by simp
      replace H := cnt_zero H
      unfold e0 at H
      replace H := let_hid H
      obtain ⟨_, rfl, H⟩ := H
      obtain rfl := ret_hid H
      go_wp2_with fail
      go_ret
      exact ⟨rfl, HBwr0.out⟩
    | succ m0 =>
      have hlt0 : k0 < a.length := by omega
      have hc0 : decide ((k0 : Int) < ((a.length : Nat) : Int)) = true := by simp; omega
      replace H := cnt_succ H
      unfold l0 at H
      replace H := let_hid H
      obtain ⟨_, rfl, H⟩ := H
      replace H := idx_hid H
      obtain ⟨nt_8, yt_8, et_8, lt_8, gt_8, H⟩ := H
      obtain rfl : k0 = nt_8 := by omega
      clear et_8
      obtain ⟨ab_t_8, ao_t_8, zt_8, At_8, z_t_8, ct_8_0⟩ := Go.Proofs.Ytpaakpbbahbhcaa.HelpInt.Ints.at_ M0.out lt_8
      obtain rfl := Option.some.inj (gt_8.out.symm.trans z_t_8)
      subst At_8
      have ltt_8 := cell_lt ct_8_0
      replace ct_8_0 := cell_below HBwr0.out ct_8_0
      clear z_t_8
      have b0t_8 : (0 : Int) ≤ (k0 : Int) := by omega
      have b1t_8 : (k0 : Int) < ((a.length : Nat) : Int) := by omega
      have b2t_8 : ((k0 : Int)).toNat = k0 := by omega
      replace H := let_hid H
      obtain ⟨t_11, ht_11, H⟩ := H
      cases t_11 with
      | false =>
        replace H := ite_f H
        replace H := let_hid H
        obtain ⟨t_14, ht_14, H⟩ := H
        replace H := app_hid H
        go_wp2_with fail
        go_roundg m0
        case measure => omega
        case rel => exact ⟨k0 + 1, _, by omega, by go_num, rfl, H, HBwr0⟩
      | true =>
        replace H := ite_t H
        obtain rfl := ret_hid H
        go_wp2_with fail
        go_ret
        exact ⟨rfl, HBwr0.out⟩
end Go.Proofs.Ytpaakpbbahbhcaa.GlHeldIntS

/- The laws' helpers on slices of ints as plain functions: equal, marked, held. Condition: at most 2^40 numbers. -/
namespace Go.Proofs.Ytpaakpbbahbhcaa.QInt
set_option linter.unusedVariables false
set_option linter.unusedSimpArgs false
open Go.RowKit
open Go.Proofs.Ytpaakpbbahbhcaa.GoP Go.Proofs.Ytpaakpbbahbhcaa.QBase Go.Proofs.Ytpaakpbbahbhcaa.QLoop

theorem eqI (l : List Int) : GlEqIntS.P l l = some true := by
  simp only [GlEqIntS.P, letK, iteK_if]
  rw [if_neg (by simp)]
  refine cnt_is true (fun _ _ => True) ?_ (fun s _ => rfl) () trivial
  intro k s nx hk _ hn
  obtain ⟨x, hx, hi⟩ := at_lt (l := l) (k := k) hk
  simp only [GlEqIntS.l0, hi, Option.bind_some, letK, appK, iteK_if]
  rw [if_neg (by simp)]
  exact hn () trivial
/-- 1, 2, 3 .. -/
def ups (n : Nat) : List Int := (List.range n).map (fun i : Nat => (i : Int) + 1)
theorem ups_at {n k : Nat} (h : k < n) : (ups n)[k]? = some ((k : Int) + 1) := by unfold ups; simp [h]
theorem ups_len (n : Nat) : (ups n).length = n := by simp [ups]
theorem markI (l : List Int) (hl : l.length ≤ 1099511627776) : GlMarkIntS.P l 1 = some ((l.length : Int) + 1, ups l.length) := by
  simp only [GlMarkIntS.P]
  refine cnt_is _ (fun k s => s.1.length = l.length ∧ s.2 = (k : Int) + 1 ∧ ∀ i, i < k → s.1[i]? = some ((i : Int) + 1)) ?_ ?_ (l, 1) ⟨rfl, rfl, fun i hi => by omega⟩
  · rintro k ⟨a, b⟩ nx hk ⟨h1, h2, h3⟩ hn
    dsimp only at h1 h2 h3
    obtain ⟨x, hx, hi⟩ := at_lt (l := a) (k := k) (by omega)
    simp only [GlMarkIntS.l0, unp2, hi, Option.bind_some, letK, appK]
    rw [wrap_in (by omega) (by omega)]
    refine hn _ ⟨by simpa using h1, by dsimp only; omega, fun i hi2 => ?_⟩
    dsimp only
    by_cases he : i = k
    · subst he; rw [List.getElem?_set_self (by omega), h2]
    · rw [List.getElem?_set_ne (by omega)]; exact h3 i (by omega)
  · rintro ⟨a, b⟩ ⟨h1, h2, h3⟩
    dsimp only at h1 h2 h3
    have : a = ups l.length := by
      apply List.ext_getElem?
      intro i
      by_cases hi : i < l.length
      · rw [h3 i hi, ups_at hi]
      · rw [List.getElem?_eq_none (by omega), List.getElem?_eq_none (by rw [ups_len]; omega)]
    simp only [GlMarkIntS.e0, unp2]
    rw [this, h2]
theorem heldI (n : Nat) (hl : n ≤ 1099511627776) : GlHeldIntS.P (ups n) 1 = some ((n : Int) + 1) := by
  simp only [GlHeldIntS.P]
  refine cnt_is _ (fun k s => s = (k : Int) + 1) ?_ ?_ 1 rfl
  · intro k s nx hk hI hn
    rw [ups_len] at hk
    have hi : idx (ups n) (k : Int) = some ((k : Int) + 1) := by rw [idx_nat, ups_at hk]
    simp only [GlHeldIntS.l0, hi, Option.bind_some, letK, appK, iteK_if]
    rw [if_neg (by simp [hI]), wrap_in (by omega) (by omega)]
    exact hn _ (by omega)
  · intro s hI
    simp only [GlHeldIntS.e0, letK]
    rw [hI, ups_len]
/-- a loop that gathers -/
theorem gather {α β R : Type} {l : List α} {p : α → Bool} {g : α → β} {f : Nat → List β → (List β → Option R) → (List β → Option R) → Option R} {fin : List β → Option R} (hl : l.length ≤ 1099511627776)
    (step : ∀ k nx x s, l[k]? = some x → s.length ≤ 1099511627776 → f k s nx fin = nx (if p x then s ++ [g x] else s)) : cntK f l.length 0 [] fin = fin ((l.filter p).map g) := by
  have key : ∀ m k, k + m = l.length → cntK f m k (((l.take k).filter p).map g) fin = fin ((l.filter p).map g) := by
    intro m
    induction m with
    | zero => intro k hk; obtain rfl : k = l.length := by omega
              rw [List.take_of_length_le (Nat.le_refl _)]; rfl
    | succ m ih =>
      intro k hk
      obtain ⟨x, hx, _⟩ := at_lt (l := l) (k := k) (by omega)
      show f k _ _ fin = _
      have hle : (((l.take k).filter p).map g).length ≤ 1099511627776 := by
        rw [List.length_map]
        have := List.length_filter_le p (l.take k)
        rw [List.length_take] at this
        omega
      rw [step k _ x _ hx hle, ← ih (k + 1) (by omega), take_next hx, List.filter_append, List.map_append]
      cases hp : p x <;> simp [List.filter, hp]
  exact key l.length 0 (by omega)
end Go.Proofs.Ytpaakpbbahbhcaa.QInt

/- Chapter 5: combs, holes, gauges: the plain functions of the program and of the reference agree, and the laws answer true. (QToI) No condition but those of each theorem. -/
namespace Go.Proofs.Ytpaakpbbahbhcaa.QToI
set_option linter.unusedVariables false
set_option linter.unusedSimpArgs false
open Go.RowKit
open Go.Proofs.Ytpaakpbbahbhcaa.GoP Go.Proofs.Ytpaakpbbahbhcaa.PlainStamp Go.Proofs.Ytpaakpbbahbhcaa.QBase Go.Proofs.Ytpaakpbbahbhcaa.QLoop

theorem toI (l : List Int) (hl : l.length ≤ 1048576) : GlToIntS.P l = some l := by
  simp only [GlToIntS.P, letK]
  rw [guardK_pos (by omega)]
  refine cnt_is l (fun k s => s = l.take k ++ List.replicate (l.length - k) 0) ?_ ?_ _ (by simp)
  · intro k s nx hk hI hn
    obtain ⟨x, hx, hi⟩ := at_lt (l := l) (k := k) hk
    have hlen : s.length = l.length := by rw [hI]; simp; omega
    obtain ⟨z, hz, hj⟩ := at_lt (l := s) (k := k) (by omega)
    simp only [GlToIntS.l0, hi, hj, Option.bind_some, letK, appK]
    refine hn _ ?_
    rw [hI, take_next hx, List.set_append_right _ _ (by simp; omega)]
    have hr : l.length - k = (l.length - (k + 1)) + 1 := by omega
    rw [hr, List.replicate_succ, List.append_assoc]
    simp [show k - min k l.length = 0 by omega]
  · intro s hI
    rw [hI]; simp [GlToIntS.e0, letK]
end Go.Proofs.Ytpaakpbbahbhcaa.QToI

/- The laws' helpers on Sighting, which holds a row, and on slices of it as plain functions: copied, equal, their bulk. No condition but those of each theorem. -/
namespace Go.Proofs.Ytpaakpbbahbhcaa.QHVSightingE
set_option linter.unusedVariables false
set_option linter.unusedSimpArgs false
open Go.RowKit
open Go.Proofs.Ytpaakpbbahbhcaa.GoP Go.Proofs.Ytpaakpbbahbhcaa.QBase Go.Proofs.Ytpaakpbbahbhcaa.QLoop Go.Proofs.Ytpaakpbbahbhcaa.QInt Go.Proofs.Ytpaakpbbahbhcaa.QToI Go.Proofs.Ytpaakpbbahbhcaa.PSighting

/-- what a machine can hold -/
def szOk (s : Sighting) : Prop := s.town.size ≤ 9223372036854775807 ∧ s.traits.length ≤ 9223372036854775807
theorem toOne (s : Sighting) (h : s.traits.length ≤ 1048576) : GlToSighting.P s.id s.year s.town s.traits = some s := by
  simp only [GlToSighting.P, toI s.traits h, Option.bind_some]
theorem eqOne (s : Sighting) : GlEqSighting.P s.id s.year s.town s.traits s.id s.year s.town s.traits = some true := by
  simp [GlEqSighting.P, eqI, letK, joinK, appK, iteK_if]
theorem szI_eq (l : List Int) (left : Int) (h0 : 0 ≤ left) (h1 : left ≤ 1048576) (hl : l.length ≤ 9223372036854775807) : GlSzIntS.P l left = some (if left - (l.length : Int) < 0 then -1 else left - (l.length : Int)) := by
  simp only [GlSzIntS.P, letK, iteK_if]
  rw [wrap_in (by omega) (by omega)]
  by_cases h : left - (l.length : Int) < 0
  · rw [if_pos (by simpa using h), if_pos h]
  · rw [if_neg (by simpa using h), if_neg h]
theorem szOne (s : Sighting) (left : Int) (h : szOk s) (h0 : 0 ≤ left) (h1 : left ≤ 1048576) : ∃ v, GlSzSighting.P s.id s.year s.town s.traits left = some v ∧ v ≤ left ∧ (0 ≤ v → v + (s.traits.length : Int) ≤ left) := by
  have hm := h
  unfold szOk at hm
  simp only [GlSzSighting.P, letK, iteK_if]
  rw [wrap_in (x := left - (s.town.size : Int)) (by omega) (by omega)]
  by_cases hd0 : left - (s.town.size : Int) < 0
  · exact ⟨-1, by rw [if_pos (by simpa using hd0)], by omega, by omega⟩
  rw [if_neg (by simpa using hd0)]
  rw [szI_eq s.traits (left - (s.town.size : Int)) (by omega) (by omega) (by omega)]
  simp only [Option.bind_some]
  by_cases hd1 : left - (s.town.size : Int) - (s.traits.length : Int) < 0
  · rw [if_pos hd1]; exact ⟨-1, by simp, by omega, by omega⟩
  rw [if_neg hd1, if_neg (by simpa using hd1)]
  exact ⟨_, rfl, by omega, by omega⟩
/-- how many numbers the first k records hold -/
def tot (l : List Sighting) (k : Nat) : Nat := ((l.take k).map fun s => s.traits.length).sum
theorem tot_next {l : List Sighting} {k : Nat} {x : Sighting} (hx : l[k]? = some x) : tot l (k + 1) = tot l k + x.traits.length := by unfold tot; rw [take_next hx]; simp
theorem tot_zero (l : List Sighting) : tot l 0 = 0 := rfl
theorem tot_mono (l : List Sighting) : ∀ d k, tot l k ≤ tot l (k + d) := by
  intro d
  induction d with
  | zero => intro k; exact Nat.le_refl _
  | succ d ih =>
    intro k
    have := ih k
    by_cases h : k + d < l.length
    · have h2 := tot_next (List.getElem?_eq_getElem h)
      rw [show k + (d + 1) = k + d + 1 by omega]; omega
    · have e : tot l (k + (d + 1)) = tot l (k + d) := by unfold tot; rw [List.take_of_length_le (by omega), List.take_of_length_le (by omega)]
      omega
theorem tot_mem {l : List Sighting} {x : Sighting} (hx : x ∈ l) : x.traits.length ≤ tot l l.length := by
  obtain ⟨k, hk⟩ := List.getElem?_of_mem hx
  have h1 := tot_next hk
  have hkl := (List.getElem?_eq_some_iff.1 hk).1
  have h2 := tot_mono l (l.length - (k + 1)) (k + 1)
  rw [show k + 1 + (l.length - (k + 1)) = l.length by omega] at h2
  omega
/-- what fits into the laws' bulk -/
def small (l : List Sighting) : Prop := l.length + tot l l.length ≤ 1048576
theorem small_len {l : List Sighting} (h : small l) : l.length ≤ 1048576 := by unfold small at h; omega
theorem small_row {l : List Sighting} (h : small l) {x : Sighting} (hx : x ∈ l) : x.traits.length ≤ 1048576 := by have := tot_mem hx; unfold small at h; omega
theorem szF (l : List Sighting) (left : Int) (h0 : 0 ≤ left) (h1 : left ≤ 1048576) (hf : ∀ s ∈ l, szOk s) (hl : l.length ≤ 9223372036854775807) : ∃ v, GlSzSightingS.P l left = some v ∧ v ≤ left ∧ (0 ≤ v → small l) := by
  simp only [GlSzSightingS.P, letK, iteK_if]
  rw [wrap_in (by omega) (by omega)]
  by_cases h : left - (l.length : Int) < 0
  · exact ⟨-1, by rw [if_pos (by simp; omega)], by omega, by omega⟩
  · rw [if_neg (by simp; omega)]
    refine cnt_ex (n := l.length) (Q := fun v => v ≤ left ∧ (0 ≤ v → small l)) (fun k (s : Int) => 0 ≤ s ∧ s + (tot l k : Int) ≤ left - (l.length : Int)) ?_ ?_ l.length 0 _ (by omega) ⟨by omega, by rw [tot_zero]; omega⟩
    · intro k s nx hk hI hn
      obtain ⟨x, hx, hi⟩ := at_lt (l := l) (k := k) hk
      simp only [GlSzSightingS.l0, hi, Option.bind_some, unSighting, letK, appK, iteK_if]
      obtain ⟨v, hv, hv1, hv2⟩ := szOne x s (hf x (List.mem_of_getElem? hx)) hI.1 (by omega)
      rw [hv]
      simp only [Option.bind_some]
      by_cases hb : v < 0
      · rw [if_pos (by simpa using hb)]; exact ⟨-1, by simp, by omega, by omega⟩
      · rw [if_neg (by simpa using hb)]
        refine hn _ ⟨by omega, ?_⟩
        have := hv2 (by omega)
        rw [tot_next hx]; omega
    · intro s hI; exact ⟨s, rfl, by omega, fun _ => by unfold small; omega⟩
theorem szS (l : List Sighting) (hf : ∀ s ∈ l, szOk s) (hl : l.length ≤ 9223372036854775807) : ∃ v, GlSzSightingS.P l 1048576 = some v ∧ (0 ≤ v → small l) := by
  obtain ⟨v, h1, _, h2⟩ := szF l 1048576 (by omega) (by omega) hf hl
  exact ⟨v, h1, h2⟩
theorem toS (l : List Sighting) (hl : small l) : GlToSightingS.P l = some l := by
  have hlen := small_len hl
  simp only [GlToSightingS.P, letK]
  rw [guardK_pos (by omega)]
  refine cnt_is l (fun k s => s = l.take k ++ List.replicate (l.length - k) (Sighting.mk 0 0 ByteArray.empty [])) ?_ ?_ _ (by simp)
  · intro k s nx hk hI hn
    obtain ⟨x, hx, hi⟩ := at_lt (l := l) (k := k) hk
    have hsl : s.length = l.length := by rw [hI]; simp; omega
    obtain ⟨z, hz, hj⟩ := at_lt (l := s) (k := k) (by omega)
    have h1 := toOne x (small_row hl (List.mem_of_getElem? hx))
    simp only [GlToSightingS.l0, hi, hj, h1, Option.bind_some, unSighting, letK, appK]
    refine hn _ ?_
    rw [hI, take_next hx, List.set_append_right _ _ (by simp; omega)]
    have hr : l.length - k = (l.length - (k + 1)) + 1 := by omega
    rw [hr, List.replicate_succ, List.append_assoc]
    simp [show k - min k l.length = 0 by omega]
  · intro s hI
    rw [hI]; simp [GlToSightingS.e0, letK]
theorem eqS (l : List Sighting) : GlEqSightingS.P l l = some true := by
  simp only [GlEqSightingS.P, letK, iteK_if]
  rw [if_neg (by simp)]
  refine cnt_is true (fun _ _ => True) ?_ (fun s _ => rfl) () trivial
  intro k s nx hk _ hn
  obtain ⟨x, hx, hi⟩ := at_lt (l := l) (k := k) hk
  simp only [GlEqSightingS.l0, hi, Option.bind_some, unSighting, eqOne, letK, appK, iteK_if]
  exact hn () trivial
end Go.Proofs.Ytpaakpbbahbhcaa.QHVSightingE

