/- Texts on which the proofs of several laws stand, one behind the other (2 of 11). No condition of their own. -/
import Derived.Test.YthkaeighfjadlaaU10P1
import Derived.Deep.AppendLies
import Derived.Test.YthkaeighfjadlaaChecked
import Derived.Lib.SmallJoins
import Derived.Deep.Slices
import Derived.Deep.Fields
import Derived.ChangeSame
import Derived.Lib.LaidU8
import Derived.WalkKit
import Derived.WalkSpells
import Derived.WalkLawsBesides
import Derived.BigQuiet
import Derived.OwnWalk
import Derived.Deep.LoopGhost
import Derived.Deep.QuietTactic
import Derived.IntWalk
import Derived.Lib.QuietBelow
/- Rows of records in one's own memory: clear of a tail; a part taken out (append(s[:i], s[j:]...), clear of what is left behind). No condition. -/
namespace Go.Proofs.Ythkaeighfjadlaa.GoD
set_option linter.unusedVariables false
set_option linter.unusedSimpArgs false
open Go.RowKit
open Go.Proofs.Ythkaeighfjadlaa.Rowed Go.Proofs.Ythkaeighfjadlaa.Turn Go.Proofs.Ythkaeighfjadlaa.GoM Go.Proofs.Ythkaeighfjadlaa.GoK

theorem flatten_rep (zs : List Value) : ∀ (n i : Nat), (List.replicate n zs).flatten[i]? = if i < n * zs.length then some zs[i % zs.length]! else none
  | 0, i => by simp
  | n + 1, i => by
    rw [List.replicate_succ, List.flatten_cons]
    by_cases hi : i < zs.length
    · rw [List.getElem?_append_left hi, Nat.mod_eq_of_lt hi, if_pos (by rw [Nat.succ_mul]; omega), List.getElem?_eq_getElem hi]
      simp [getElem!_pos, hi]
    · have h1 : (i - zs.length < n * zs.length) ↔ (i < (n + 1) * zs.length) := by rw [Nat.succ_mul]; omega
      have h2 : (i - zs.length) % zs.length = i % zs.length := (Nat.mod_eq_sub_mod (by omega)).symm
      rw [List.getElem?_append_right (by omega), flatten_rep zs n (i - zs.length), h2]
      simp only [h1]
theorem rep_len (zs : List Value) (n : Nat) : (List.replicate n zs).flatten.length = n * zs.length := by simp
theorem zero_list (zs : List Value) (n : Nat) : (Builtin.zeroCells zs.toArray n).toList = (List.replicate n zs).flatten := by
  apply List.ext_getElem?
  intro i
  rw [flatten_rep]
  unfold Builtin.zeroCells
  by_cases hi : i < n * zs.length
  · rw [if_pos hi]; simp [hi]
  · rw [if_neg hi, List.getElem?_eq_none (by simp; omega)]
theorem run_clearK {P : Program} (w : World) (t e ty : TypeId) (z : Value) (zs : List Value) (ht : P.underlying t = some (.slice e)) (hv : ∀ w, (zeroValue e).run P w = .ok z w) (hz : z.cells = zs.toArray) (h1 : ∀ u ∈ zs, u.oneCell' = true) (b o n c : Nat) (hn : 0 < n)
    (hc : ∀ j, j < n * zs.length → (w.cell? ⟨b, o + j, none⟩).isSome = true) (hf : ∀ j, j < n * zs.length → w.frozen? ⟨b, o + j, none⟩ = false) :
    (Builtin.clear_ #[t] ty #[.slice (some ⟨b, o, none⟩) n c]).run P w = .ok (.tuple #[]) (w.setCells b o (List.replicate n zs).flatten) := by
  have hl := rep_len zs n
  have hst := run_storeCells_cells (P := P) b o (List.replicate n zs).flatten 0 w (by rw [hl]; simpa using hc) (by rw [hl]; simpa using hf)
    (by intro v hv'; obtain ⟨l, hl1, hl2⟩ := List.mem_flatten.1 hv'; rw [List.eq_of_mem_replicate hl1] at hl2; exact h1 v hl2)
  simp only [Nat.add_zero] at hst
  have hzl := zero_list zs n
  obtain ⟨m, rfl⟩ : ∃ m, n = m + 1 := ⟨n - 1, by omega⟩
  simp [Builtin.clear_, run_underlying ht, hv, hz, hzl, hst]
theorem flat_clear {α : Type} (f : α → List Value) (K : Nat) (hK : ∀ x, (f x).length = K) (l : List α) (q m : Nat) (z : α) : (l.flatMap f).take (q * K) ++ (List.replicate m (f z)).flatten = (l.take q ++ List.replicate m z).flatMap f := by
  rw [flat_take f K hK, List.flatMap_append]
  congr 1
  induction m with
  | zero => rfl
  | succ m ih => rw [List.replicate_succ, List.flatten_cons, List.replicate_succ, List.flatMap_cons, ih]
/-- clear(s[lo:]) of a row of its own, of records -/
theorem own_clearK {P : Program} {t e : TypeId} {i : TypeInfo} {k : IntKind} {K n c b : Nat} {A : Option Addr} {lo : Int} {w : World} {xs ys zs : List Value} {z : Value}
    (ht : P.underlying t = some (.slice (P.elem t))) (he : P.elem t = e) (hi : P.info? e = some i) (hs : i.size = K) (hv : i.zero = some z) (hz : z.cells = zs.toArray) (hzl : zs.length = K) (hK : 0 < K) (h1 : ∀ u ∈ zs, u.oneCell' = true)
    (h : w.ownsRow b e K (.slice A n c) n xs) (hl : 0 ≤ lo ∧ lo ≤ (n : Int)) (hd : xs.take (lo.toNat * K) ++ (List.replicate (n - lo.toNat) zs).flatten = ys) :
    ∃ A' m c' w', (∀ W, (Instr.slice t (.slice A n c) (some (.int k lo)) none none).run P W = .ok (.slice A' m c') W) ∧ (∀ ty, (Builtin.clear_ #[t] ty #[.slice A' m c']).run P w = .ok (.tuple #[]) w') ∧
      w'.ownsRow b e K (.slice A n c) n ys ∧ w.grownBy w' (Value.slice A n c).ownBlock := by
  have hR := own_room h
  have hxs : xs.length = n * K := h.1
  have hsz : ∀ W, (sizeOf (P.elem t)).run P W = .ok K W := by intro W; subst he; simp [sizeOf, typeInfo, hi, hs]
  have hrun : ∀ W, (Instr.slice t (.slice A n c) (some (.int k lo)) none none).run P W = .ok (.slice (if c = lo.toNat then A else A.map (·.add (lo.toNat * K))) (n - lo.toNat) (c - lo.toNat)) W := by
    intro W
    rw [run_slice_l (P := P) W t A n c ht k lo hl.1 hl.2, hsz W]
    rfl
  by_cases hm : n - lo.toNat = 0
  · refine ⟨_, _, _, w, hrun, ?_, ?_, Aid.grown_refl _ _⟩
    · intro ty
      rw [hm]
      generalize (if c = lo.toNat then A else A.map (·.add (lo.toNat * K))) = A'
      cases A' <;> simp [Builtin.clear_, run_underlying ht]
    · have hle : n * K ≤ lo.toNat * K := Nat.mul_le_mul_right K (by omega)
      rw [← hd, hm, List.replicate_zero, List.flatten_nil, List.append_nil, List.take_of_length_le (by omega)]
      exact h
  · obtain ⟨g, rfl⟩ := own_some h (by omega)
    have hne : ¬ c = lo.toNat := by have := hR.1; omega
    have hcl := own_cells h
    have hmul : lo.toNat * K + (n - lo.toNat) * K = n * K := by rw [← Nat.add_mul]; congr 1; omega
    have hget : ∀ j, j < n * K → (w.cell? ⟨g, j, none⟩).isSome = true := by
      intro j hj
      obtain ⟨ad, e0, hc⟩ := hcl.2 (by omega)
      obtain rfl := Option.some.inj e0
      have := hc j xs[j] (List.getElem?_eq_getElem (by omega))
      rw [add_flat, Nat.zero_add] at this
      rw [this]; rfl
    have hadd : (if c = lo.toNat then (some ⟨g, 0, none⟩ : Option Addr) else (some ⟨g, 0, none⟩ : Option Addr).map (·.add (lo.toNat * K))) = some ⟨g, lo.toNat * K, none⟩ := by
      rw [if_neg hne, Option.map_some, add_flat, Nat.zero_add]
    rw [hadd] at hrun
    have hrl : (List.replicate (n - lo.toNat) zs).flatten.length = (n - lo.toNat) * K := by rw [rep_len, hzl]
    have h2 := own_setCells (List.replicate (n - lo.toNat) zs).flatten (lo.toNat * K) h (by rw [hrl]; omega)
    refine ⟨_, _, _, _, hrun, fun ty => ?_, ?_, h2.2⟩
    · exact run_clearK w t e ty z zs (he ▸ ht) (fun w => by simp [zeroValue, typeInfo, hi, hv]) hz h1 g (lo.toNat * K) (n - lo.toNat) (c - lo.toNat) (by omega) (fun j hj => hget _ (by rw [hzl] at hj; omega)) (fun j hj => h.frozenAt _)
    · have e2 : xs.take (lo.toNat * K) ++ (List.replicate (n - lo.toNat) zs).flatten ++ xs.drop (lo.toNat * K + (List.replicate (n - lo.toNat) zs).flatten.length) = ys := by
        rw [hrl, List.drop_of_length_le (by omega), List.append_nil, hd]
      rw [← e2]
      exact h2.1
/-- s[lo:] of a row of its own, to be read -/
theorem slice_view {P : Program} {t e : TypeId} {i : TypeInfo} {k : IntKind} {K n c b : Nat} {A : Option Addr} {lo : Int} {w : World} {xs ys : List Value} {m : Nat}
    (ht : P.underlying t = some (.slice (P.elem t))) (he : P.elem t = e) (hi : P.info? e = some i) (hs : i.size = K) (h : w.ownsRow b e K (.slice A n c) n xs) (hl : 0 ≤ lo ∧ lo ≤ (n : Int)) (hm : n - lo.toNat = m) (hd : xs.drop (lo.toNat * K) = ys) :
    ∃ A' c', (∀ W, (Instr.slice t (.slice A n c) (some (.int k lo)) none none).run P W = .ok (.slice A' m c') W) ∧ (∀ W : World, W.ownsRow b e K (.slice A n c) n xs → Cells W K A' m ys) ∧ Room A' m c' := by
  have hR := own_room h
  subst hm
  have hsz : ∀ W, (sizeOf (P.elem t)).run P W = .ok K W := by intro W; subst he; simp [sizeOf, typeInfo, hi, hs]
  have hrun : ∀ W, (Instr.slice t (.slice A n c) (some (.int k lo)) none none).run P W = .ok (.slice (if c = lo.toNat then A else A.map (·.add (lo.toNat * K))) (n - lo.toNat) (c - lo.toNat)) W := by
    intro W
    rw [run_slice_l (P := P) W t A n c ht k lo hl.1 hl.2, hsz W]
    rfl
  have key : ∀ W : World, W.ownsRow b e K (.slice A n c) n xs → Cells W K (if c = lo.toNat then A else A.map (·.add (lo.toNat * K))) (n - lo.toNat) ys ∧ Room (if c = lo.toNat then A else A.map (·.add (lo.toNat * K))) (n - lo.toNat) (c - lo.toNat) := by
    intro W hW
    obtain ⟨A', c', hr, hC, hM⟩ := slice_tail (P := P) (t := t) (k := k) ht he hi hs (own_cells hW) (own_room hW) hl rfl hd
    have e1 := (hr W).symm.trans (hrun W)
    simp only [Result.ok.injEq, Value.slice.injEq, true_and, and_true] at e1
    obtain ⟨rfl, rfl⟩ := e1
    exact ⟨hC, hM⟩
  exact ⟨_, _, hrun, fun W hW => (key W hW).1, (key w h).2⟩
/-- s[:hi] of a row of its own, to be read -/
theorem slice_viewH {P : Program} {t e : TypeId} {i : TypeInfo} {k : IntKind} {K n c b : Nat} {A : Option Addr} {hi : Int} {w : World} {xs ys : List Value} {m : Nat}
    (ht : P.underlying t = some (.slice (P.elem t))) (he : P.elem t = e) (hi_ : P.info? e = some i) (hs : i.size = K) (h : w.ownsRow b e K (.slice A n c) n xs) (hl : 0 ≤ hi ∧ hi ≤ (n : Int)) (hm : hi.toNat = m) (hd : xs.take (hi.toNat * K) = ys) :
    ∃ A' c', (∀ W, (Instr.slice t (.slice A n c) none (some (.int k hi)) none).run P W = .ok (.slice A' m c') W) ∧ (∀ W : World, W.ownsRow b e K (.slice A n c) n xs → Cells W K A' m ys) ∧ Room A' m c' :=
  ⟨A, c, (slice_head ht he hi_ hs h hl hm hd).1, fun W hW => own_cells (slice_head (k := k) ht he hi_ hs hW hl hm hd).2, own_room (slice_head (k := k) ht he hi_ hs h hl hm hd).2⟩
/-- a part of a row of its own is taken out: append(s[:p], s[q:]...), then clear of what is left behind -/
theorem own_cut {P : Program} {t e : TypeId} {i : TypeInfo} {K n c b : Nat} {A : Option Addr} {w : World} {xs zs : List Value} {z : Value}
    (ht : P.underlying t = some (.slice (P.elem t))) (he : P.elem t = e) (hi : P.info? e = some i) (hs : i.size = K) (hv : i.zero = some z) (hz : z.cells = zs.toArray) (hzl : zs.length = K) (hK : 0 < K) (h1 : ∀ u ∈ zs, u.oneCell' = true) (hx1 : ∀ u ∈ xs, u.oneCell' = true)
    (h : w.ownsRow b e K (.slice A n c) n xs) {p q : Nat} (hpq : p < q) (hq : q ≤ n) :
    ∃ g A1 c1 w1 w2, A = some ⟨g, 0, none⟩ ∧ (∀ W, (Instr.slice t (.slice (some ⟨g, 0, none⟩) n c) none (some (.int .i64 (p : Int))) none).run P W = .ok (.slice (some ⟨g, 0, none⟩) p c) W) ∧
      (∀ W, (Instr.slice t (.slice (some ⟨g, 0, none⟩) n c) (some (.int .i64 (q : Int))) none none).run P W = .ok (.slice A1 (n - q) c1) W) ∧
      (∀ ty, (Builtin.append_ #[t, t] ty #[.slice (some ⟨g, 0, none⟩) p c, .slice A1 (n - q) c1]).run P w = .ok (.slice (some ⟨g, 0, none⟩) (p + (n - q)) c) w1) ∧
      (∀ ty, (Builtin.clear_ #[t] ty #[.slice (some ⟨g, (p + (n - q)) * K, none⟩) (n - (p + (n - q))) (c - (p + (n - q)))]).run P w1 = .ok (.tuple #[]) w2) ∧
      w2.ownsRow b e K (.slice (some ⟨g, 0, none⟩) (p + (n - q)) c) (p + (n - q)) (xs.take (p * K) ++ xs.drop (q * K)) ∧ w.grownBy w2 (some g) := by
  have hR := own_room h
  have hxs : xs.length = n * K := h.1
  obtain ⟨g, rfl⟩ := own_some h (by omega)
  have hsz : ∀ W, (sizeOf (P.elem t)).run P W = .ok K W := by intro W; subst he; simp [sizeOf, typeInfo, hi, hs]
  have hcl := own_cells h
  have hpK : p * K + (q - p) * K = q * K := by rw [← Nat.add_mul]; congr 1; omega
  have hqK : q * K + (n - q) * K = n * K := by rw [← Nat.add_mul]; congr 1; omega
  have hmK : (p + (n - q)) * K = p * K + (n - q) * K := Nat.add_mul _ _ _
  have hmm : (p + (n - q)) * K + (q - p) * K = n * K := by rw [← Nat.add_mul]; congr 1; omega
  have r1 := (slice_head (P := P) (t := t) (k := .i64) (hi := (p : Int)) (m := p) ht he hi hs h ⟨by omega, by omega⟩ (by omega) rfl).1
  have r2 : ∀ W, (Instr.slice t (.slice (some ⟨g, 0, none⟩) n c) (some (.int .i64 (q : Int))) none none).run P W = .ok (.slice (some (if c = q then ⟨g, 0, none⟩ else ⟨g, q * K, none⟩)) (n - q) (c - q)) W := by
    intro W
    rw [run_slice_l (P := P) W t _ n c ht .i64 (q : Int) (by omega) (by omega), hsz W]
    simp only [Result.andThen, sliced, Int.toNat_natCast, Option.map_some, add_flat, Nat.zero_add]
    by_cases hcq : c = q <;> simp [hcq]
  obtain ⟨_, hown⟩ := h
  rcases hown with ⟨h0, _⟩ | ⟨g', cap, cur, e0, hb, hg, hnc, hcm, hcs, htake⟩
  · simp at h0
  simp only [Value.slice.injEq, Option.some.injEq, Addr.mk.injEq, true_and, and_true] at e0
  obtain ⟨rfl, rfl⟩ := e0
  have h : w.ownsRow b e K (.slice (some ⟨g, 0, none⟩) n c) n xs := ⟨hxs, .inr ⟨g, c, cur, rfl, hb, hg, hnc, hcm, hcs, htake⟩⟩
  have hnews : (xs.drop (q * K)).length = (n - q) * i.size := by rw [List.length_drop, hs]; omega
  have hcK : n * K ≤ c * K := Nat.mul_le_mul_right K hnc
  have hcell : ∀ j u, (xs.drop (q * K))[j]? = some u → w.cell? ((if c = q then ⟨g, 0, none⟩ else ⟨g, q * K, none⟩ : Addr).add j) = some u := by
    intro j u hu
    rw [List.getElem?_drop] at hu
    have hlt := (List.getElem?_eq_some_iff.1 hu).1
    obtain ⟨ad, ea, hc⟩ := hcl.2 (by omega)
    obtain rfl := Option.some.inj ea
    have := hc (q * K + j) u hu
    rw [add_flat, Nat.zero_add] at this
    have hne : ¬ c = q := by
      intro ec
      have : n = q := by omega
      rw [this] at hxs
      omega
    rw [if_neg hne, add_flat]
    exact this
  have hfit : p * i.size + (xs.drop (q * K)).length ≤ cur.size := by rw [hnews, hs, hcs]; omega
  have ra := fun ty => run_append_room (P := P) w t ty e i (he ▸ ht) hi g p c cur hg _ (n - q) (c - q) _ hnews hcell (fun u hu => hx1 u (List.mem_of_mem_drop hu)) (by omega) hfit
  obtain ⟨w1, hw1⟩ : ∃ x, w.setRow g (cur.toList.take (p * i.size) ++ xs.drop (q * K) ++ cur.toList.drop (p * i.size + (xs.drop (q * K)).length)).toArray = x := ⟨_, rfl⟩
  rw [hw1] at ra
  have hn2 : (xs.drop (q * K)).length = (n - q) * K := by rw [hnews, hs]
  have hcl2 : cur.toList.length = c * K := by simpa using hcs
  have hpn : p * K ≤ n * K := Nat.mul_le_mul_right K (by omega)
  have hx : ∀ m, m ≤ n * K → cur.toList.take m = xs.take m := by
    intro m hm
    rw [← htake, List.take_take, Nat.min_eq_left hm]
  have ho1 : w1.ownsRow b e K (.slice (some ⟨g, 0, none⟩) n c) n (xs.take (p * K) ++ xs.drop (q * K) ++ (cur.toList.drop (p * K + (n - q) * K)).take ((q - p) * K)) := by
    refine ⟨?_, .inr ⟨g, c, (xs.take (p * K) ++ xs.drop (q * K) ++ cur.toList.drop (p * K + (n - q) * K)).toArray, rfl, hb, ?_, hnc, hcm, ?_, ?_⟩⟩
    · rw [List.length_append, List.length_append, hn2, List.length_take, List.length_take, List.length_drop, hcl2]; omega
    · rw [← hw1, hs, hn2, hx _ hpn]; exact setRow_heap w g cur _ e _ hg
    · rw [List.size_toArray, List.length_append, List.length_append, hn2, List.length_take, List.length_drop, hcl2]; omega
    · rw [List.take_append, List.take_of_length_le (l := xs.take (p * K) ++ xs.drop (q * K)) (by rw [List.length_append, hn2, List.length_take]; omega)]
      congr 2
      rw [List.length_append, hn2, List.length_take]; omega
  have hgr1 : w.grownBy w1 (some g) := by
    rw [← hw1]
    exact ⟨rfl, rfl, rfl, by simp [World.setRow], fun k _ hk => setRow_other w g k _ (fun e => hk (by rw [e]))⟩
  have hrl : (List.replicate (q - p) zs).flatten.length = (q - p) * K := by rw [rep_len, hzl]
  have hl1 : (xs.take (p * K) ++ xs.drop (q * K) ++ (cur.toList.drop (p * K + (n - q) * K)).take ((q - p) * K)).length = n * K := ho1.1
  have hset := own_setCells (List.replicate (q - p) zs).flatten ((p + (n - q)) * K) ho1 (by rw [hrl, hl1]; omega)
  have hcl1 := own_cells ho1
  have hget : ∀ j, j < n * K → (w1.cell? ⟨g, j, none⟩).isSome = true := by
    intro j hj
    obtain ⟨ad, ea, hc⟩ := hcl1.2 (by rw [hl1]; omega)
    obtain rfl := Option.some.inj ea
    have := hc j _ (List.getElem?_eq_getElem (by rw [hl1]; exact hj))
    rw [add_flat, Nat.zero_add] at this
    rw [this]; rfl
  have hcr := fun ty => run_clearK w1 t e ty z zs (he ▸ ht) (fun w => by simp [zeroValue, typeInfo, hi, hv]) hz h1 g ((p + (n - q)) * K) (q - p) (c - (p + (n - q))) (by omega) (fun j hj => hget _ (by rw [hzl] at hj; omega)) (fun j hj => ho1.frozenAt _)
  have hcr2 : ∀ ty, (Builtin.clear_ #[t] ty #[.slice (some ⟨g, (p + (n - q)) * K, none⟩) (n - (p + (n - q))) (c - (p + (n - q)))]).run P w1 = .ok (.tuple #[]) (w1.setCells g ((p + (n - q)) * K) (List.replicate (q - p) zs).flatten) := by rw [show n - (p + (n - q)) = q - p by omega]; exact hcr
  refine ⟨g, _, _, w1, _, rfl, r1, r2, ra, hcr2, ?_, Aid.grown_tr hgr1 hset.2⟩
  have hh := (slice_head (P := P) (t := t) (k := .i64) (hi := ((p + (n - q) : Nat) : Int)) (m := p + (n - q)) ht he hi hs hset.1 ⟨by omega, by omega⟩ (by omega) rfl).2
  rw [Int.toNat_natCast, List.append_assoc, List.take_append_of_le_length (by rw [List.length_take, hl1]; omega), List.take_take, Nat.min_self, List.take_append_of_le_length (by rw [List.length_append, hn2, List.length_take]; omega), List.take_of_length_le (by rw [List.length_append, hn2, List.length_take]; omega)] at hh
  exact hh
/-- an append that is known, as one step of a region that draws its order -/
theorem step_append_run {P : Program} {w : World} {ops : Array Oper} {o : Oper} {a : Act} {K : Act → World → Prop} {Q : Exit → Act → World → Prop} {E : Prop} (hgd : o.guard = none) (s x : Operand) (t : TypeId)
    (ho : o.op = .call { callee := .builtin .append, args := #[s, x], argTypes := #[t, t] }) {sv xv v' : Value} {w' : World} (hs : a.eval s = sv) (hx : a.eval x = xv)
    (hr : ∀ ty, (Builtin.append_ #[t, t] ty #[sv, xv]).run P w = .ok v' w') (h : K (a.put o.dst v') w') :
    if Region.wanted o (yielded ops a.tmps) = true then Oper.wp P o a w K Q else E := by
  have hw : Region.wanted o (yielded ops a.tmps) = true := by simp [Region.wanted, hgd]
  rw [if_pos hw]
  unfold Oper.wp execOp
  simp only [ho, resolve, invoke, builtin, Sem.run_bind, Sem.run_pure, Result.andThen_ok, List.map_toArray, List.map_cons, List.map_nil, hs, hx, hr]
  exact h
end Go.Proofs.Ythkaeighfjadlaa.GoD

/- An append onto a row of its own as one step of a region that draws its order. No condition. -/
namespace Go.Proofs.Ythkaeighfjadlaa.GoH
set_option linter.unusedVariables false
theorem step_append_own {P : Program} {w : World} {ops : Array Oper} {o : Oper} {a : Act} {K : Act → World → Prop} {Q : Exit → Act → World → Prop} {E : Prop} (hgd : o.guard = none) (s x : Operand) (t : TypeId)
    (ho : o.op = .call { callee := .builtin .append, args := #[s, x], argTypes := #[t, t] })
    (base : Nat) (e : TypeId) (i : TypeInfo) (z : Value) (size bytes : Nat) (ht : P.underlying t = some (.slice e)) (hi : P.info? e = some i) (hz : i.zero = some z)
    (hsize : i.size = size) (hby : i.bytes = bytes) (hzs : z.cells.size = size) (hsz : 0 < size)
    (A : Option Addr) (c n : Nat) (xs : List Value) (hs : a.eval s = .slice A n c) (hown : w.ownsRow base e size (.slice A n c) n xs)
    (ad : Addr) (cc : Nat) (news : List Value) (hx : a.eval x = .slice (some ad) 1 cc) (hl : news.length = 1 * size) (hnews : ∀ j u, news[j]? = some u → w.cell? (ad.add j) = some u) (h1 : ∀ u ∈ news, u.oneCell' = true)
    (h63 : n + 1 ≤ maxLen) (hbytes : (n + 1) * bytes ≤ 140737488355328) (hbase : base ≤ w.heap.size)
    (h : ∀ v' w', w'.ownsRow base e size v' (n + 1) (xs ++ news) → w.grownBy w' (Value.slice A n c).ownBlock → (v'.ownBlock = (Value.slice A n c).ownBlock ∨ v'.ownBlock = some w.heap.size) → K (a.put o.dst v') w') :
    if Region.wanted o (yielded ops a.tmps) = true then Oper.wp P o a w K Q else E := by
  refine Go.step_append_lies w hgd s x t ho base e i z size bytes ht hi hz hsize hby hzs hsz (.slice A n c) n xs hs hown ad 1 cc news hx hl hnews h1 (by omega) h63 hbytes hbase w.heap.size rfl ?_
  intro g cap w' o1 g1 y1 _
  refine h _ w' o1 g1 ?_
  rcases y1 with y1 | y1
  · left; rw [y1]; rfl
  · right; rw [y1]; rfl
/-- append(a, b...) onto a row of its own as one step of such a region -/
theorem step_spread_own {P : Program} {w : World} {ops : Array Oper} {o : Oper} {a : Act} {K : Act → World → Prop} {Q : Exit → Act → World → Prop} {E : Prop} (hgd : o.guard = none) (s x : Operand) (t : TypeId)
    (ho : o.op = .call { callee := .builtin .append, args := #[s, x], argTypes := #[t, t] })
    (base : Nat) (e : TypeId) (i : TypeInfo) (z : Value) (size bytes : Nat) (ht : P.underlying t = some (.slice e)) (hi : P.info? e = some i) (hz : i.zero = some z)
    (hsize : i.size = size) (hby : i.bytes = bytes) (hzs : z.cells.size = size) (hsz : 0 < size)
    (A1 : Option Addr) (c1 n : Nat) (xs : List Value) (hs : a.eval s = .slice A1 n c1) (hown : w.ownsRow base e size (.slice A1 n c1) n xs)
    (A : Option Addr) (m c : Nat) (news : List Value) (hx : a.eval x = .slice A m c) (hN : Go.Proofs.Ythkaeighfjadlaa.GoM.Room A m c) (hc : Go.Proofs.Ythkaeighfjadlaa.Rowed.Cells w size A m news) (h1 : ∀ u ∈ news, u.oneCell' = true)
    (h63 : n + m ≤ maxLen) (hbytes : (n + m) * bytes ≤ 140737488355328) (hbase : base ≤ w.heap.size)
    (h : ∀ v' w', w'.ownsRow base e size v' (n + m) (xs ++ news) → w.grownBy w' (Value.slice A1 n c1).ownBlock → (v'.ownBlock = (Value.slice A1 n c1).ownBlock ∨ v'.ownBlock = some w.heap.size) → K (a.put o.dst v') w') :
    if Region.wanted o (yielded ops a.tmps) = true then Oper.wp P o a w K Q else E := by
  have hw : Region.wanted o (yielded ops a.tmps) = true := by simp [Region.wanted, hgd]
  rw [if_pos hw]
  obtain ⟨v', w', hr, h2, h3, h5⟩ : ∃ v' w', (Builtin.append_ #[t, t] o.type #[.slice A1 n c1, .slice A m c]).run P w = .ok v' w' ∧ w'.ownsRow base e size v' (n + m) (xs ++ news) ∧ w.grownBy w' (Value.slice A1 n c1).ownBlock ∧ (v'.ownBlock = (Value.slice A1 n c1).ownBlock ∨ v'.ownBlock = some w.heap.size) := by
    cases A with
    | some ad =>
      obtain ⟨v', w', hr, h2, h3, _, h5⟩ := run_append_own_at (P := P) w base t o.type e i z size bytes ht hi hz hsize hby hzs hsz (.slice A1 n c1) n xs hown ad m c news hc.1 (fun j u hu => by
        obtain ⟨ad', e', hcell⟩ := hc.2 (by have := (List.getElem?_eq_some_iff.1 hu).1; omega)
        obtain rfl : ad = ad' := Option.some.inj e'
        exact hcell j u hu) h1 h63 hbytes hbase
      exact ⟨v', w', hr, h2, h3, h5⟩
    | none =>
      have hm : m = 0 := by
        cases news with
        | nil =>
          have h0 : ([] : List Value).length = m * size := hc.1
          rw [List.length_nil] at h0
          rcases Nat.mul_eq_zero.1 h0.symm with h1 | h1 <;> omega
        | cons y l => obtain ⟨ad, e', _⟩ := hc.2 (by simp); simp at e'
      obtain rfl : c = 0 := hN.2 rfl
      subst hm
      have hn : news = [] := List.eq_nil_of_length_eq_zero (by have := hc.1; simpa using this)
      subst hn
      exact ⟨_, w, run_append_owned_none (P := P) w base t o.type e i size ht hi (.slice A1 n c1) n xs hown, by simpa using hown, World.grownBy.refl w _, .inl rfl⟩
  unfold Oper.wp execOp
  simp only [ho, resolve, invoke, builtin, Sem.run_bind, Sem.run_pure, Result.andThen_ok, List.map_toArray, List.map_cons, List.map_nil, hs, hx, hr]
  exact h v' w' h2 h3 h5
end Go.Proofs.Ythkaeighfjadlaa.GoH

/- How a struct of one-cell fields that comes in as data is opened, whatever the number of its fields; lists by their members. No condition. -/
namespace Go.Proofs.Ythkaeighfjadlaa.OpenAny
set_option linter.unusedVariables false
open Go.Joins Go.ChangeShapes Go.WideShapes Go.RowKit Go.Deep

theorem add_none (b o n : Nat) : (⟨b, o, none⟩ : Addr).add n = ⟨b, o + n, none⟩ := by
  unfold Addr.add; split
  · rename_i h; subst h; rfl
  · rfl
section
variable {H : Type} {enc : TypeId × Value → H} {P : Program} {w : World} {base : Nat} {spare : Nat → Bool} {held : Bool}
/-- each field reads on its own -/
theorem read_fields {t : TypeId} {fs : Array Field} {fuel : Nat} {cs : List Value} {x : DataW H × List MemPlace} (hs : P.underlying t = some (.struct fs)) (hone : oneCellFields P fs = true) (hC : P.cellsOf t = fs.size)
    (h : DataW.trod enc P w base spare held fuel t cs = some x) :
    cs.length = P.cellsOf t ∧ ∀ (j : Nat) (f : Field), fs[j]? = some f → ∃ (u : Value) (n : Nat) (y : DataW H × List MemPlace), cs[j]? = some u ∧ DataW.trod enc P w base spare held n f.type [u] = some y := by
  obtain ⟨xs, n, _, _, hlen, hxl, hg⟩ := DataW.trod_struct hs h
  refine ⟨hlen, fun j f hj => ?_⟩
  obtain ⟨ho, hk⟩ := hone_of hone j f hj
  have hjl : j < fs.size := (Array.getElem?_eq_some_iff.1 hj).1
  have h1 := hg j f hj
  rw [ho, hk, List.getElem?_eq_getElem (by omega : j < xs.length)] at h1
  have hc : j < cs.length := by omega
  rw [List.drop_eq_getElem_cons hc] at h1
  exact ⟨cs[j], n, _, List.getElem?_eq_getElem hc, h1⟩
/-- an aggregate that comes in reads as its cells do -/
theorem agg_any {r : Reach} {b0 : Nat} {t : TypeId} {fs : Array Field} {v : Value} {d : DataW H} {p : List MemPlace} (hs : P.underlying t = some (.struct fs)) (hv : Value.okWide P w r b0 t v) (h : DataW.Trod enc P w base spare held t v d p) :
    ∃ (cs : Array Value) (n : Nat) (x : DataW H × List MemPlace), v = .agg cs ∧ DataW.trod enc P w base spare held n t cs.toList = some x := by
  obtain ⟨cs, rfl, _⟩ := okWide_struct hs hv
  obtain ⟨fuel, hf⟩ := h
  exact ⟨cs, fuel, _, rfl, hf⟩
end
/-- a list by its members -/
theorem list_of {α : Type} (p : Nat → α → Prop) : ∀ (n : Nat), (∀ k, k < n → ∃ a, p k a) → ∃ l : List α, l.length = n ∧ ∀ k a, l[k]? = some a → p k a
  | 0, _ => ⟨[], rfl, fun k a h => by simp at h⟩
  | n + 1, h => by
    obtain ⟨l, hl, hp⟩ := list_of p n (fun k hk => h k (by omega))
    obtain ⟨a, ha⟩ := h n (by omega)
    refine ⟨l ++ [a], by simp [hl], fun k b hb => ?_⟩
    by_cases hk : k < n
    · rw [List.getElem?_append_left (by omega)] at hb; exact hp k b hb
    · have hk' : k < (l ++ [a]).length := (List.getElem?_eq_some_iff.1 hb).1
      simp [hl] at hk'
      obtain rfl : k = n := by omega
      rw [List.getElem?_append_right (by omega), hl, Nat.sub_self] at hb
      obtain rfl : a = b := by simpa using hb
      exact ha
end Go.Proofs.Ythkaeighfjadlaa.OpenAny

/- The record Mail as data that comes in, and a slice of it. No condition. -/
namespace Go.Proofs.Ythkaeighfjadlaa.OMail
set_option linter.unusedVariables false
set_option maxRecDepth 100000
open Go.Joins Go.ChangeShapes Go.WideShapes Go.RowKit Go.Deep
open Go.Proofs.Ythkaeighfjadlaa.Rowed Go.Proofs.Ythkaeighfjadlaa.OpenAny Go.Proofs.Ythkaeighfjadlaa.PMail

/-- the slice 'A, n' reads as the records l -/
abbrev Mails (w : World) (A : Option Addr) (n : Nat) (l : List Mail) : Prop := Cells w 4 A n (flat l)
theorem at_ {w : World} {A : Option Addr} {n k : Nat} {l : List Mail} (h : Mails w A n l) (hk : k < n) :
    ∃ (b o : Nat) (s : Mail), A = some ⟨b, o, none⟩ ∧ l[k]? = some s ∧ w.cell? ⟨b, o + k * 4, none⟩ = some (.int .i64 s.leave) ∧ w.cell? ⟨b, o + k * 4 + 1, none⟩ = some (.int .i64 s.from_) ∧ w.cell? ⟨b, o + k * 4 + 2, none⟩ = some (.int .i64 s.to_) ∧ w.cell? ⟨b, o + k * 4 + 3, none⟩ = some (.int .i64 s.arrive) := by
  have hl : k < l.length := by have := h.1; rw [flat_len] at this; omega
  obtain ⟨⟨b, o, sp⟩, e, hc⟩ := h.2 (by rw [flat_len]; omega)
  have h0 := hc 0 _ (flat_at l 0 l[0] (List.getElem?_eq_getElem (by omega)) 0 (by omega))
  obtain rfl : sp = none := cell_spot (b := b) (o := o) h0
  have hs := List.getElem?_eq_getElem hl
  have f := flat_at l k _ hs
  have g := fun j u hu => add_none b o j ▸ hc j u hu
  exact ⟨b, o, l[k], e, hs, g _ _ (f 0 (by omega)), g _ _ (f 1 (by omega)), g _ _ (f 2 (by omega)), g _ _ (f 3 (by omega))⟩
theorem len_of {w : World} {A : Option Addr} {n : Nat} {l : List Mail} (h : Mails w A n l) : l.length = n := by
  have := h.1
  rw [flat_len] at this; omega

/-- a slice of records that came in: the list that it reads as -/
structure Came (w : World) (A : Option Addr) (len cap : Nat) (l : List Mail) : Prop where
  cells : Mails w A len l
  small : len ≤ maxLen
  fits : ∀ s ∈ l, s.fits
theorem Came.len {w : World} {A : Option Addr} {len cap : Nat} {l : List Mail} (h : Came w A len cap l) : l.length = len := len_of h.cells

section
variable {H : Type} {enc : TypeId × Value → H} {w : World} {base : Nat} {spare : Nat → Bool} {held : Bool}
theorem read_one {n : Nat} {cs : List Value} {x : DataW H × List MemPlace} (h : DataW.trod enc Try.prog w base spare held n 93 cs = some x) : ∃ s : Mail, cs = s.cells ∧ s.fits := by
  have hc : Try.prog.cellsOf 93 = 4 := by kernel_rfl
  obtain ⟨hl, hf⟩ := read_fields Try.underlying93 (by kernel_rfl) hc h
  rw [hc] at hl
  match cs, hl with
  | [v0, v1, v2, v3], _ =>
    obtain ⟨u0, n0, y0, eu0, t0⟩ := hf 0 _ rfl
    obtain ⟨x0, e0, _, f0⟩ := DataW.trod_int Try.underlying3 t0
    obtain rfl : v0 = u0 := by simpa using eu0
    obtain rfl : v0 = .int .i64 x0 := by simpa using e0
    obtain ⟨u1, n1, y1, eu1, t1⟩ := hf 1 _ rfl
    obtain ⟨x1, e1, _, f1⟩ := DataW.trod_int Try.underlying3 t1
    obtain rfl : v1 = u1 := by simpa using eu1
    obtain rfl : v1 = .int .i64 x1 := by simpa using e1
    obtain ⟨u2, n2, y2, eu2, t2⟩ := hf 2 _ rfl
    obtain ⟨x2, e2, _, f2⟩ := DataW.trod_int Try.underlying3 t2
    obtain rfl : v2 = u2 := by simpa using eu2
    obtain rfl : v2 = .int .i64 x2 := by simpa using e2
    obtain ⟨u3, n3, y3, eu3, t3⟩ := hf 3 _ rfl
    obtain ⟨x3, e3, _, f3⟩ := DataW.trod_int Try.underlying3 t3
    obtain rfl : v3 = u3 := by simpa using eu3
    obtain rfl : v3 = .int .i64 x3 := by simpa using e3
    exact ⟨⟨x0, x1, x2, x3⟩, rfl, f0, f1, f2, f3⟩
theorem open_one {r : Reach} {b0 : Nat} {v : Value} {d : DataW H} {p : List MemPlace} (hv : Value.okWide Try.prog w r b0 93 v) (h : DataW.Trod enc Try.prog w base spare held 93 v d p) :
    ∃ s : Mail, v = s.val ∧ s.fits := by
  obtain ⟨cs, n, x, rfl, ht⟩ := agg_any Try.underlying93 hv h
  obtain ⟨s, e, hs⟩ := read_one ht
  refine ⟨s, ?_, hs⟩
  obtain ⟨l⟩ := cs
  obtain rfl : l = s.cells := by simpa using e
  rfl
end
theorem open_field {H : Type} {enc : TypeId × Value → H} {W : World} {fuel : Nat} {u : Value} {y : DataW H × List MemPlace}
    (hf : DataW.trod enc Try.prog W 0 (fun _ => true) true fuel 24 [u] = some y) : ∃ (a : Option Addr) (len cap : Nat) (l : List Mail), u = .slice a len cap ∧ Came W a len cap l := by
  have ck : Try.prog.cellsOf 93 = 4 := by kernel_rfl
  rcases open_slice Try.underlying24 hf with ⟨hcs, _⟩ | ⟨x, ln, cp, m, n, D, Pl, hcs, hb, hl, hm, hmm, _, hi⟩
  · obtain rfl : u = .slice none 0 0 := by simpa using hcs
    exact ⟨none, 0, 0, [], rfl, Cells.nil_ _ _ _, by unfold maxLen; omega, by intro s hs; simp at hs⟩
  · obtain rfl : u = .slice (some x) ln cp := by simpa using hcs
    simp only [if_true] at hmm
    subst hmm
    rw [ck] at hi
    obtain ⟨l, hll, hp⟩ := list_of (fun k s => Mail.fits s ∧ ∀ j, j < 4 → W.cell? (x.add (k * 4 + j)) = s.cells[j]?) ln (fun k hk => by
      obtain ⟨cs', hc, ht⟩ := hi k (by omega)
      obtain ⟨s, rfl, hfit⟩ := read_one ht
      refine ⟨s, hfit, fun j hj => ?_⟩
      have := (World.cells?_some hc).2.2 j hj
      rw [Go.Deep.add_add] at this
      exact this)
    refine ⟨some x, ln, _, l, rfl, ⟨by rw [flat_len, hll], fun h0 => ⟨x, rfl, fun j u hu => ?_⟩⟩, by omega, fun s hs => ?_⟩
    · have hj : j < (flat l).length := (List.getElem?_eq_some_iff.1 hu).1
      rw [flat_len] at hj
      have hk : j / 4 < l.length := by omega
      have e := flat_at l (j / 4) l[j/4] (List.getElem?_eq_getElem hk) (j % 4) (by omega)
      rw [show j / 4 * 4 + j % 4 = j by omega, hu] at e
      have := (hp (j / 4) l[j/4] (List.getElem?_eq_getElem hk)).2 (j % 4) (by omega)
      rw [show j / 4 * 4 + j % 4 = j by omega, ← e] at this
      exact this
    · obtain ⟨k, hk⟩ := List.getElem?_of_mem hs
      exact (hp k s hk).1
theorem open_many {H : Type} {enc : TypeId × Value → H} {W : World} {a : Option Addr} {len cap : Nat} {d : DataW H} {p : List MemPlace}
    (h : DataW.Trod enc Try.prog W 0 (fun _ => true) true 24 (.slice a len cap) d p) : ∃ l : List Mail, Came W a len cap l := by
  obtain ⟨fuel, hf⟩ := h
  obtain ⟨a2, l2, c2, l, e, hl⟩ := open_field (u := .slice a len cap) hf
  simp only [Value.slice.injEq] at e
  obtain ⟨rfl, rfl, rfl⟩ := e
  exact ⟨l, hl⟩

/-- a record that was boxed -/
theorem box_ {w : World} {s : Mail} {g : Nat} (h : Cells w 4 (some ⟨g, 0, none⟩) 1 s.cells) : w.cell? ⟨g, 0, none⟩ = some (.int .i64 s.leave) ∧ w.cell? ⟨g, 1, none⟩ = some (.int .i64 s.from_) ∧ w.cell? ⟨g, 2, none⟩ = some (.int .i64 s.to_) ∧ w.cell? ⟨g, 3, none⟩ = some (.int .i64 s.arrive) := by
  obtain ⟨ad, e, hc⟩ := h.2 (by simp [Mail.cells])
  obtain rfl := Option.some.inj e
  have gg := fun j u hu => add_none g 0 j ▸ hc j u hu
  exact ⟨by simpa using gg 0 _ rfl, by simpa using gg 1 _ rfl, by simpa using gg 2 _ rfl, by simpa using gg 3 _ rfl⟩
theorem box_new (w : World) (s : Mail) (T : TypeId) : Cells (w.alloc (.cells #[.int .i64 s.leave, .int .i64 s.from_, .int .i64 s.to_, .int .i64 s.arrive] T)) 4 (some ⟨w.heap.size, 0, none⟩) 1 s.cells :=
  ⟨by simp [Mail.cells], fun _ => ⟨_, rfl, fun j u hu => by
    have hj : j < 4 := by have := (List.getElem?_eq_some_iff.1 hu).1; simpa [Mail.cells] using this
    rw [add_none, World.cell?_alloc_new]
    match j, hj with
    | 0, _ => simpa [Mail.cells] using hu
    | 1, _ => simpa [Mail.cells] using hu
    | 2, _ => simpa [Mail.cells] using hu
    | 3, _ => simpa [Mail.cells] using hu
⟩⟩
end Go.Proofs.Ythkaeighfjadlaa.OMail

/- The drawing cursor's method next as a plain function on tapes. No condition. -/
namespace Go.Proofs.Ythkaeighfjadlaa.GsL1CurNext
set_option linter.unusedVariables false
open Go.RowKit
open Go.Proofs.Ythkaeighfjadlaa.GoC
def P (t : GoC.Tape) : Option (Int × GoC.Tape) := if 0 < t.left then some (t.vals 0, t.tail) else none
theorem C (t : GoC.Tape) (g : Nat) (A : Option Addr) (c b : Nat) (w : World) (K : Hid (CurIs w b g A c t)) {r : Int} {t' : GoC.Tape} (H : Hid (P t = some (r, t'))) :
    Calls Try.prog 142 #[.pointer (some ⟨g, 0, none⟩)] w (fun e w' => e = .returned (.int .i64 r) ∧ CurIs w' b g A c t' ∧ w.grownBy w' (Value.slice (some ⟨g, 0, none⟩) 1 1).ownBlock) := GoC.C t w b g A c K H
end Go.Proofs.Ythkaeighfjadlaa.GsL1CurNext

/- (*loop.example/g01062/spec.l1Cur).pick as a plain function, and the contract of the program's: where the plain one has an answer, the program has it. Conditions: slices read as lists. -/
namespace Go.Proofs.Ythkaeighfjadlaa.GsL1CurPick
set_option linter.unusedVariables false
set_option linter.unusedSimpArgs false
open Go.RowKit
open Go.Proofs.Ythkaeighfjadlaa.Rowed Go.Proofs.Ythkaeighfjadlaa.Turn Go.Proofs.Ythkaeighfjadlaa.Aid Go.Proofs.Ythkaeighfjadlaa.GoP Go.Proofs.Ythkaeighfjadlaa.GoM

def j0 (n_1 : Int) (s : Int × Go.Proofs.Ythkaeighfjadlaa.GoC.Tape) : Option (Int × Go.Proofs.Ythkaeighfjadlaa.GoC.Tape) :=
  unp2 s fun x_5j0 c0_c0j0 =>
  guardK (¬ (n_1 = 0)) <|
  letK (Int.tmod x_5j0 n_1) fun (t_17 : Int) =>
  some (t_17, c0_c0j0)

def P (c : Go.Proofs.Ythkaeighfjadlaa.GoC.Tape) (n_1 : Int) : Option (Int × Go.Proofs.Ythkaeighfjadlaa.GoC.Tape) :=
  letK (decide (n_1 ≤ 1)) fun (t_2 : Bool) =>
  iteK t_2
  (some (0, c))
  (bind2 (Go.Proofs.Ythkaeighfjadlaa.GsL1CurNext.P c) fun (t_5 : Int) (t_5_tp : Go.Proofs.Ythkaeighfjadlaa.GoC.Tape) =>
  letK (decide (200 < n_1)) fun (t_8 : Bool) =>
  iteK t_8
  (letK (IntKind.i64.wrap (t_5 * 256)) fun (t_10 : Int) =>
  bind2 (Go.Proofs.Ythkaeighfjadlaa.GsL1CurNext.P t_5_tp) fun (t_12 : Int) (t_12_tp : Go.Proofs.Ythkaeighfjadlaa.GoC.Tape) =>
  letK (IntKind.i64.wrap (t_10 + t_12)) fun (t_13 : Int) =>
  j0 n_1 (t_13, t_12_tp))
  (j0 n_1 (t_5, t_5_tp)))

set_option maxRecDepth 100000 in
set_option maxHeartbeats 2000000 in
theorem C (c : Go.Proofs.Ythkaeighfjadlaa.GoC.Tape) (n_1 : Int)   (g0 : Nat) (Ac0 : Option Addr) (cc0 : Nat) (bc0 : Nat) (w : World)   (K0 : Hid (Go.Proofs.Ythkaeighfjadlaa.GoC.CurIs w bc0 g0 Ac0 cc0 c)) {r : Int} {t_ : Go.Proofs.Ythkaeighfjadlaa.GoC.Tape} (H : Hid (P c n_1 = some (r, t_))) :
    Calls Try.prog 122 #[.pointer (some ⟨g0, 0, none⟩), .int .i64 n_1] w (fun e w' => e = .returned (.int .i64 r) ∧ Go.Proofs.Ythkaeighfjadlaa.GoC.CurIs w' bc0 g0 Ac0 cc0 t_ ∧ w.grownBy w' (Value.slice (some ⟨g0, 0, none⟩) 1 1).ownBlock) := by
  have HB := Lib.hid (Aid.grown_refl w (Value.slice (some ⟨g0, 0, none⟩) 1 1).ownBlock)
  unfold P at H
  have L0 : bc0 ≤ w.heap.size := by have := Go.Proofs.Ythkaeighfjadlaa.GoC.cur_lt K0.out; omega
  go_enter Try.func122, Try.ntmps122
  replace H := let_hid H
  obtain ⟨t_2, ht_2, H⟩ := H
  cases t_2 with
  | false =>
    replace H := ite_f H
    replace H := bind2_hid H
    obtain ⟨t_5, t_5_tp, qt_5, H⟩ := H
    go_wp2_with fail
    go_at_call 142
    refine (Go.Proofs.Ythkaeighfjadlaa.GsL1CurNext.C (c) (g0) (Ac0) (cc0) (bc0) _   K0 qt_5).mono ?_
    rintro e_t_5 wt_5 ⟨rfl, kt_5, gt_5⟩
    have Kt_5 := Lib.hid kt_5
    have Gt_5 : Hid (w.grownBy wt_5 (Value.slice (some ⟨g0, 0, none⟩) 1 1).ownBlock) := Lib.hid gt_5
    clear kt_5 gt_5
    have HBwt_5 := Lib.hid (Aid.grown_tr HB.out Gt_5.out)
    clear K0 Gt_5
    replace H := let_hid H
    obtain ⟨t_8, ht_8, H⟩ := H
    cases t_8 with
    | false =>
      replace H := ite_f H
      unfold j0 at H
      replace H := unp2_hid H
      replace H := guard_hid H
      obtain ⟨hz_t_17, H⟩ := H
      replace H := let_hid H
      obtain ⟨t_17, ht_17, H⟩ := H
      cases ret_hid H
      go_wp2_with fail
      go_ret
      exact ⟨rfl, Kt_5.out, HBwt_5.out⟩
    | true =>
      replace H := ite_t H
      replace H := let_hid H
      obtain ⟨t_10, ht_10, H⟩ := H
      replace H := bind2_hid H
      obtain ⟨t_12, t_12_tp, qt_12, H⟩ := H
      go_wp2_with fail
      go_at_call 142
      refine (Go.Proofs.Ythkaeighfjadlaa.GsL1CurNext.C (t_5_tp) (g0) (Ac0) (cc0) (bc0) _   Kt_5 qt_12).mono ?_
      rintro e_t_12 wt_12 ⟨rfl, kt_12, gt_12⟩
      have Kt_12 := Lib.hid kt_12
      have Gt_12 : Hid (wt_5.grownBy wt_12 (Value.slice (some ⟨g0, 0, none⟩) 1 1).ownBlock) := Lib.hid gt_12
      clear kt_12 gt_12
      have HBwt_12 := Lib.hid (Aid.grown_tr HBwt_5.out Gt_12.out)
      clear Kt_5 Gt_12
      replace H := let_hid H
      obtain ⟨t_13, ht_13, H⟩ := H
      unfold j0 at H
      replace H := unp2_hid H
      replace H := guard_hid H
      obtain ⟨hz_t_17, H⟩ := H
      replace H := let_hid H
      obtain ⟨t_17, ht_17, H⟩ := H
      cases ret_hid H
      go_wp2_with fail
      go_ret
      exact ⟨rfl, Kt_12.out, HBwt_12.out⟩
  | true =>
    replace H := ite_t H
    cases ret_hid H
    go_wp2_with fail
    go_ret
    exact ⟨rfl, K0.out, HB.out⟩
end Go.Proofs.Ythkaeighfjadlaa.GsL1CurPick

/- (*loop.example/g01062/spec.l1Cur).among as a plain function, and the contract of the program's: where the plain one has an answer, the program has it. Conditions: slices read as lists. -/
namespace Go.Proofs.Ythkaeighfjadlaa.GsL1CurAmong
set_option linter.unusedVariables false
set_option linter.unusedSimpArgs false
open Go.RowKit
open Go.Proofs.Ythkaeighfjadlaa.Rowed Go.Proofs.Ythkaeighfjadlaa.Turn Go.Proofs.Ythkaeighfjadlaa.Aid Go.Proofs.Ythkaeighfjadlaa.GoP Go.Proofs.Ythkaeighfjadlaa.GoM

def P (c : Go.Proofs.Ythkaeighfjadlaa.GoC.Tape) (list : (List Int)) : Option (Int × Go.Proofs.Ythkaeighfjadlaa.GoC.Tape) :=
  bind2 (Go.Proofs.Ythkaeighfjadlaa.GsL1CurPick.P c (list.length : Int)) fun (t_5 : Int) (t_5_tp : Go.Proofs.Ythkaeighfjadlaa.GoC.Tape) =>
  Option.bind (idx list t_5) fun (yt_6 : Int) =>
  some (yt_6, t_5_tp)

set_option maxRecDepth 100000 in
set_option maxHeartbeats 2000000 in
theorem C (c : Go.Proofs.Ythkaeighfjadlaa.GoC.Tape) (list : (List Int)) (A1 : Option Addr) (c1 : Nat)  (g0 : Nat) (Ac0 : Option Addr) (cc0 : Nat) (bc0 : Nat) (w : World) (M1 : Hid (Cells w 1 A1 list.length (Go.Proofs.Ythkaeighfjadlaa.HelpInt.iv list))) (N1 : Hid (list.length ≤ 9223372036854775807))  (K0 : Hid (Go.Proofs.Ythkaeighfjadlaa.GoC.CurIs w bc0 g0 Ac0 cc0 c)) (X1 : Hid (0 < list.length → Apart A1 (some ⟨g0, 0, none⟩))) {r : Int} {t_ : Go.Proofs.Ythkaeighfjadlaa.GoC.Tape} (H : Hid (P c list = some (r, t_))) :
    Calls Try.prog 75 #[.pointer (some ⟨g0, 0, none⟩), .slice A1 list.length c1] w (fun e w' => e = .returned (.int .i64 r) ∧ Go.Proofs.Ythkaeighfjadlaa.GoC.CurIs w' bc0 g0 Ac0 cc0 t_ ∧ w.grownBy w' (Value.slice (some ⟨g0, 0, none⟩) 1 1).ownBlock) := by
  have HB := Lib.hid (Aid.grown_refl w (Value.slice (some ⟨g0, 0, none⟩) 1 1).ownBlock)
  unfold P at H
  have N1o := N1.out
  have L0 : bc0 ≤ w.heap.size := by have := Go.Proofs.Ythkaeighfjadlaa.GoC.cur_lt K0.out; omega
  go_enter Try.func75, Try.ntmps75
  replace H := bind2_hid H
  obtain ⟨t_5, t_5_tp, qt_5, H⟩ := H
  go_wp2_with fail
  go_at_call 122
  refine (Go.Proofs.Ythkaeighfjadlaa.GsL1CurPick.C (c) ((list.length : Int)) (g0) (Ac0) (cc0) (bc0) _   K0 qt_5).mono ?_
  rintro e_t_5 wt_5 ⟨rfl, kt_5, gt_5⟩
  have Kt_5 := Lib.hid kt_5
  have Gt_5 : Hid (w.grownBy wt_5 (Value.slice (some ⟨g0, 0, none⟩) 1 1).ownBlock) := Lib.hid gt_5
  clear kt_5 gt_5
  have HBwt_5 := Lib.hid (Aid.grown_tr HB.out Gt_5.out)
  clear K0 Gt_5
  replace H := idx_hid H
  obtain ⟨nt_6, yt_6, et_6, lt_6, gt_6, H⟩ := H
  subst et_6
  obtain ⟨ab_t_6, ao_t_6, zt_6, At_6, z_t_6, ct_6_0⟩ := Go.Proofs.Ythkaeighfjadlaa.HelpInt.Ints.at_ M1.out lt_6
  obtain rfl := Option.some.inj (gt_6.out.symm.trans z_t_6)
  subst At_6
  have ltt_6 := cell_lt ct_6_0
  replace ct_6_0 := cell_other ct_6_0 HBwt_5.out (Go.Proofs.Ythkaeighfjadlaa.GoC.apart_x X1.out (by omega))
  clear z_t_6
  have b0t_6 : (0 : Int) ≤ (nt_6 : Int) := by omega
  have b1t_6 : (nt_6 : Int) < ((list.length : Nat) : Int) := by omega
  have b2t_6 : ((nt_6 : Int)).toNat = nt_6 := by omega
  cases ret_hid H
  go_wp2_with fail
  go_ret
  exact ⟨rfl, Kt_5.out, HBwt_5.out⟩
end Go.Proofs.Ythkaeighfjadlaa.GsL1CurAmong

/- (*loop.example/g01062/spec.l1Cur).mail as a plain function, and the contract of the program's: where the plain one has an answer, the program has it. Conditions: slices read as lists. -/
namespace Go.Proofs.Ythkaeighfjadlaa.GsL1CurMail
set_option linter.unusedVariables false
set_option linter.unusedSimpArgs false
open Go.RowKit
open Go.Proofs.Ythkaeighfjadlaa.Rowed Go.Proofs.Ythkaeighfjadlaa.Turn Go.Proofs.Ythkaeighfjadlaa.Aid Go.Proofs.Ythkaeighfjadlaa.GoP Go.Proofs.Ythkaeighfjadlaa.GoM

def P (c : Go.Proofs.Ythkaeighfjadlaa.GoC.Tape) : Option (Go.Proofs.Ythkaeighfjadlaa.PMail.Mail × Go.Proofs.Ythkaeighfjadlaa.GoC.Tape) :=
  letK ([0, 5, 10, 10, 20, 30, 45, 60]) fun (t_2 : (List Int)) =>
  bind2 (Go.Proofs.Ythkaeighfjadlaa.GsL1CurAmong.P c t_2) fun (t_3 : Int) (t_3_tp : Go.Proofs.Ythkaeighfjadlaa.GoC.Tape) =>
  bind2 (Go.Proofs.Ythkaeighfjadlaa.GsL1CurPick.P t_3_tp 4) fun (t_7 : Int) (t_7_tp : Go.Proofs.Ythkaeighfjadlaa.GoC.Tape) =>
  bind2 (Go.Proofs.Ythkaeighfjadlaa.GsL1CurPick.P t_7_tp 4) fun (t_9 : Int) (t_9_tp : Go.Proofs.Ythkaeighfjadlaa.GoC.Tape) =>
  letK ([1, 5, 10, 10, 25]) fun (t_12 : (List Int)) =>
  bind2 (Go.Proofs.Ythkaeighfjadlaa.GsL1CurAmong.P t_9_tp t_12) fun (t_13 : Int) (t_13_tp : Go.Proofs.Ythkaeighfjadlaa.GoC.Tape) =>
  letK (IntKind.i64.wrap (t_3 + t_13)) fun (t_14 : Int) =>
  bind2 (Go.Proofs.Ythkaeighfjadlaa.GsL1CurPick.P t_13_tp 48) fun (t_19 : Int) (t_19_tp : Go.Proofs.Ythkaeighfjadlaa.GoC.Tape) =>
  letK (t_19 == 0) fun (t_20 : Bool) =>
  iteK t_20
  (letK ([(-1), 9, 10]) fun (t_23 : (List Int)) =>
  bind2 (Go.Proofs.Ythkaeighfjadlaa.GsL1CurAmong.P t_19_tp t_23) fun (t_24 : Int) (t_24_tp : Go.Proofs.Ythkaeighfjadlaa.GoC.Tape) =>
  some ((Go.Proofs.Ythkaeighfjadlaa.PMail.Mail.mk t_3 t_7 t_24 t_14), t_24_tp))
  (letK (t_19 == 1) fun (t_27 : Bool) =>
  iteK t_27
  (letK ([t_3, 9999, 10000]) fun (t_32 : (List Int)) =>
  bind2 (Go.Proofs.Ythkaeighfjadlaa.GsL1CurAmong.P t_19_tp t_32) fun (t_33 : Int) (t_33_tp : Go.Proofs.Ythkaeighfjadlaa.GoC.Tape) =>
  some ((Go.Proofs.Ythkaeighfjadlaa.PMail.Mail.mk t_3 t_7 t_9 t_33), t_33_tp))
  (some ((Go.Proofs.Ythkaeighfjadlaa.PMail.Mail.mk t_3 t_7 t_9 t_14), t_19_tp)))

set_option maxRecDepth 100000 in
set_option maxHeartbeats 2000000 in
theorem C (c : Go.Proofs.Ythkaeighfjadlaa.GoC.Tape)   (g0 : Nat) (Ac0 : Option Addr) (cc0 : Nat) (bc0 : Nat) (w : World)   (K0 : Hid (Go.Proofs.Ythkaeighfjadlaa.GoC.CurIs w bc0 g0 Ac0 cc0 c)) {r : Go.Proofs.Ythkaeighfjadlaa.PMail.Mail} {t_ : Go.Proofs.Ythkaeighfjadlaa.GoC.Tape} (H : Hid (P c = some (r, t_))) :
    Calls Try.prog 123 #[.pointer (some ⟨g0, 0, none⟩)] w (fun e w' => e = .returned ((Go.Proofs.Ythkaeighfjadlaa.PMail.Mail.val r)) ∧ Go.Proofs.Ythkaeighfjadlaa.GoC.CurIs w' bc0 g0 Ac0 cc0 t_ ∧ w.grownBy w' (Value.slice (some ⟨g0, 0, none⟩) 1 1).ownBlock) := by
  have HB := Lib.hid (Aid.grown_refl w (Value.slice (some ⟨g0, 0, none⟩) 1 1).ownBlock)
  unfold P at H
  have L0 : bc0 ≤ w.heap.size := by have := Go.Proofs.Ythkaeighfjadlaa.GoC.cur_lt K0.out; omega
  go_enter Try.func123, Try.ntmps123
  obtain ⟨w_t_0, hw_t_0⟩ : ∃ x, w.alloc (.cells #[.int .i64 0, .int .i64 0, .int .i64 0, .int .i64 0] 93) = x := ⟨_, rfl⟩
  have bw_t_0 : Below w.heap.size w w_t_0 := by rw [← hw_t_0]; exact (Below.refl _ _).alloc (Nat.le_refl _) _
  have Dt_0_c0 := Lib.hid (Go.Proofs.Ythkaeighfjadlaa.GoC.apart_cur K0.out)
  have HBw_t_0 := Lib.hid (grown_below HB.out bw_t_0)
  replace K0 := Lib.hid (Go.Proofs.Ythkaeighfjadlaa.GoC.cur_below K0.out bw_t_0)
  clear bw_t_0
  have kt_0_0 : w_t_0.cell? ⟨w.heap.size, 0, none⟩ = some (.int .i64 0) := by rw [← hw_t_0]; exact box_new _ _ _ 0 _ rfl
  have kt_0_1 : w_t_0.cell? ⟨w.heap.size, 1, none⟩ = some (.int .i64 0) := by rw [← hw_t_0]; exact box_new _ _ _ 1 _ rfl
  have kt_0_2 : w_t_0.cell? ⟨w.heap.size, 2, none⟩ = some (.int .i64 0) := by rw [← hw_t_0]; exact box_new _ _ _ 2 _ rfl
  have kt_0_3 : w_t_0.cell? ⟨w.heap.size, 3, none⟩ = some (.int .i64 0) := by rw [← hw_t_0]; exact box_new _ _ _ 3 _ rfl
  have Ot_0 : Hid (w_t_0.ownsRow w.heap.size 93 4 (.slice (some ⟨w.heap.size, 0, none⟩) 1 1) 1 [.int .i64 0, .int .i64 0, .int .i64 0, .int .i64 0]) := Lib.hid (by rw [← hw_t_0]; exact own_laid (n := 1) HB.out.size rfl rfl (by unfold maxLen; omega))
  replace H := let_hid H
  obtain ⟨t_2, ht_2, H⟩ := H
  obtain ⟨w_t_2, hw_t_2⟩ : ∃ x, w_t_0.alloc (.cells #[.int .i64 0, .int .i64 5, .int .i64 10, .int .i64 10, .int .i64 20, .int .i64 30, .int .i64 45, .int .i64 60] 3) = x := ⟨_, rfl⟩
  have bw_t_2 : Below w_t_0.heap.size w_t_0 w_t_2 := by rw [← hw_t_2]; exact (Below.refl _ _).alloc (Nat.le_refl _) _
  have hs_t_2 := HBw_t_0.out.size
  have nt_2 : t_2.length = 8 := by rw [← ht_2]; rfl
  have Ot_2 : Hid (w_t_2.ownsRow w.heap.size 3 1 (.slice (some ⟨w_t_0.heap.size, 0, none⟩) 8 8) 8 (Go.Proofs.Ythkaeighfjadlaa.HelpInt.iv t_2)) := by
    rw [← hw_t_2, ← ht_2]
    have e_ : ([.int .i64 0, .int .i64 5, .int .i64 10, .int .i64 10, .int .i64 20, .int .i64 30, .int .i64 45, .int .i64 60] : List Value) = (Go.Proofs.Ythkaeighfjadlaa.HelpInt.iv ([0, 5, 10, 10, 20, 30, 45, 60] : List Int)) := rfl
    exact Lib.hid (own_laid (n := 8) hs_t_2 e_ rfl (by unfold maxLen; omega))
  clear hs_t_2
  have hht_2 := Lib.hid ht_2
  clear ht_2
  replace nt_2 := Lib.hid nt_2
  have Dt_2_c0 := Lib.hid (Go.Proofs.Ythkaeighfjadlaa.GoC.apart_cur K0.out)
  have Dt_2_t_0 := Lib.hid (apart_box kt_0_0)
  have HBw_t_2 := Lib.hid (grown_below HBw_t_0.out bw_t_2)
  have kt_0_0__1 := cell_below bw_t_2 kt_0_0
  have kt_0_1__2 := cell_below bw_t_2 kt_0_1
  have kt_0_2__3 := cell_below bw_t_2 kt_0_2
  have kt_0_3__4 := cell_below bw_t_2 kt_0_3
  replace K0 := Lib.hid (Go.Proofs.Ythkaeighfjadlaa.GoC.cur_below K0.out bw_t_2)
  replace Ot_0 := Lib.hid (own_below Ot_0.out bw_t_2)
  clear bw_t_2
  replace H := bind2_hid H
  obtain ⟨t_3, t_3_tp, qt_3, H⟩ := H
  go_wp2_with fail
  clear kt_0_0 kt_0_1 kt_0_2 kt_0_3
  have hc_ := nt_2.out
  have hv_ : (Value.slice (some ⟨w_t_0.heap.size, 0, none⟩) 8 8 : Value) = Value.slice (some ⟨w_t_0.heap.size, 0, none⟩) t_2.length 8 := by rw [hc_]
  try rw [hv_]
  replace Ot_2 := Lib.hid (own_len hc_ Ot_2.out)
  clear hc_ hv_
  go_wp2_with fail
  go_at_call 75
  refine (Go.Proofs.Ythkaeighfjadlaa.GsL1CurAmong.C (c) (t_2) (some ⟨w_t_0.heap.size, 0, none⟩) 8 (g0) (Ac0) (cc0) (bc0) _   (Lib.hid (own_cells Ot_2.out)) (Lib.hid (own_max Ot_2.out)) K0 (Lib.hid (fun _ => Dt_2_c0.out)) qt_3).mono ?_
  rintro e_t_3 wt_3 ⟨rfl, kt_3, gt_3⟩
  have Kt_3 := Lib.hid kt_3
  have Gt_3 : Hid (w_t_2.grownBy wt_3 (Value.slice (some ⟨g0, 0, none⟩) 1 1).ownBlock) := Lib.hid gt_3
  clear kt_3 gt_3
  have HBwt_3 := Lib.hid (Aid.grown_tr HBw_t_2.out Gt_3.out)
  replace kt_0_0__1 := cell_other kt_0_0__1 Gt_3.out (Apart.symm Dt_0_c0.out)
  replace kt_0_1__2 := cell_other kt_0_1__2 Gt_3.out (Apart.symm Dt_0_c0.out)
  replace kt_0_2__3 := cell_other kt_0_2__3 Gt_3.out (Apart.symm Dt_0_c0.out)
  replace kt_0_3__4 := cell_other kt_0_3__4 Gt_3.out (Apart.symm Dt_0_c0.out)
  replace Ot_0 := Lib.hid (own_other Ot_0.out Gt_3.out (Apart.symm Dt_0_c0.out))
  replace Ot_2 := Lib.hid (own_other Ot_2.out Gt_3.out (Apart.symm Dt_2_c0.out))
  clear K0 Gt_3
  replace H := bind2_hid H
  obtain ⟨t_7, t_7_tp, qt_7, H⟩ := H
  go_wp2_with fail
  go_at_call 122
  refine (Go.Proofs.Ythkaeighfjadlaa.GsL1CurPick.C (t_3_tp) (4) (g0) (Ac0) (cc0) (bc0) _   Kt_3 qt_7).mono ?_
  rintro e_t_7 wt_7 ⟨rfl, kt_7, gt_7⟩
  have Kt_7 := Lib.hid kt_7
  have Gt_7 : Hid (wt_3.grownBy wt_7 (Value.slice (some ⟨g0, 0, none⟩) 1 1).ownBlock) := Lib.hid gt_7
  clear kt_7 gt_7
  have HBwt_7 := Lib.hid (Aid.grown_tr HBwt_3.out Gt_7.out)
  replace kt_0_0__1 := cell_other kt_0_0__1 Gt_7.out (Apart.symm Dt_0_c0.out)
  replace kt_0_1__2 := cell_other kt_0_1__2 Gt_7.out (Apart.symm Dt_0_c0.out)
  replace kt_0_2__3 := cell_other kt_0_2__3 Gt_7.out (Apart.symm Dt_0_c0.out)
  replace kt_0_3__4 := cell_other kt_0_3__4 Gt_7.out (Apart.symm Dt_0_c0.out)
  replace Ot_0 := Lib.hid (own_other Ot_0.out Gt_7.out (Apart.symm Dt_0_c0.out))
  replace Ot_2 := Lib.hid (own_other Ot_2.out Gt_7.out (Apart.symm Dt_2_c0.out))
  clear Kt_3 Gt_7
  replace H := bind2_hid H
  obtain ⟨t_9, t_9_tp, qt_9, H⟩ := H
  go_wp2_with fail
  go_at_call 122
  refine (Go.Proofs.Ythkaeighfjadlaa.GsL1CurPick.C (t_7_tp) (4) (g0) (Ac0) (cc0) (bc0) _   Kt_7 qt_9).mono ?_
  rintro e_t_9 wt_9 ⟨rfl, kt_9, gt_9⟩
  have Kt_9 := Lib.hid kt_9
  have Gt_9 : Hid (wt_7.grownBy wt_9 (Value.slice (some ⟨g0, 0, none⟩) 1 1).ownBlock) := Lib.hid gt_9
  clear kt_9 gt_9
  have HBwt_9 := Lib.hid (Aid.grown_tr HBwt_7.out Gt_9.out)
  replace kt_0_0__1 := cell_other kt_0_0__1 Gt_9.out (Apart.symm Dt_0_c0.out)
  replace kt_0_1__2 := cell_other kt_0_1__2 Gt_9.out (Apart.symm Dt_0_c0.out)
  replace kt_0_2__3 := cell_other kt_0_2__3 Gt_9.out (Apart.symm Dt_0_c0.out)
  replace kt_0_3__4 := cell_other kt_0_3__4 Gt_9.out (Apart.symm Dt_0_c0.out)
  replace Ot_0 := Lib.hid (own_other Ot_0.out Gt_9.out (Apart.symm Dt_0_c0.out))
  replace Ot_2 := Lib.hid (own_other Ot_2.out Gt_9.out (Apart.symm Dt_2_c0.out))
  clear Kt_7 Gt_9
  replace H := let_hid H
  obtain ⟨t_12, ht_12, H⟩ := H
  obtain ⟨w_t_12, hw_t_12⟩ : ∃ x, wt_9.alloc (.cells #[.int .i64 1, .int .i64 5, .int .i64 10, .int .i64 10, .int .i64 25] 3) = x := ⟨_, rfl⟩
  have bw_t_12 : Below wt_9.heap.size wt_9 w_t_12 := by rw [← hw_t_12]; exact (Below.refl _ _).alloc (Nat.le_refl _) _
  have hs_t_12 := HBwt_9.out.size
  have nt_12 : t_12.length = 5 := by rw [← ht_12]; rfl
  have Ot_12 : Hid (w_t_12.ownsRow w.heap.size 3 1 (.slice (some ⟨wt_9.heap.size, 0, none⟩) 5 5) 5 (Go.Proofs.Ythkaeighfjadlaa.HelpInt.iv t_12)) := by
    rw [← hw_t_12, ← ht_12]
    have e_ : ([.int .i64 1, .int .i64 5, .int .i64 10, .int .i64 10, .int .i64 25] : List Value) = (Go.Proofs.Ythkaeighfjadlaa.HelpInt.iv ([1, 5, 10, 10, 25] : List Int)) := rfl
    exact Lib.hid (own_laid (n := 5) hs_t_12 e_ rfl (by unfold maxLen; omega))
  clear hs_t_12
  have hht_12 := Lib.hid ht_12
  clear ht_12
  replace nt_12 := Lib.hid nt_12
  have Dt_12_t_2 := Lib.hid (apart_fresh Ot_2.out)
  have Dt_12_c0 := Lib.hid (Go.Proofs.Ythkaeighfjadlaa.GoC.apart_cur Kt_9.out)
  have Dt_12_t_0 := Lib.hid (apart_box kt_0_0__1)
  have HBw_t_12 := Lib.hid (grown_below HBwt_9.out bw_t_12)
  have kt_0_0__5 := cell_below bw_t_12 kt_0_0__1
  have kt_0_1__6 := cell_below bw_t_12 kt_0_1__2
  have kt_0_2__7 := cell_below bw_t_12 kt_0_2__3
  have kt_0_3__8 := cell_below bw_t_12 kt_0_3__4
  replace Ot_2 := Lib.hid (own_below Ot_2.out bw_t_12)
  replace Kt_9 := Lib.hid (Go.Proofs.Ythkaeighfjadlaa.GoC.cur_below Kt_9.out bw_t_12)
  replace Ot_0 := Lib.hid (own_below Ot_0.out bw_t_12)
  clear bw_t_12
  replace H := bind2_hid H
  obtain ⟨t_13, t_13_tp, qt_13, H⟩ := H
  go_wp2_with fail
  clear kt_0_0__1 kt_0_1__2 kt_0_2__3 kt_0_3__4
  have hc_ := nt_12.out
  have hv_ : (Value.slice (some ⟨wt_9.heap.size, 0, none⟩) 5 5 : Value) = Value.slice (some ⟨wt_9.heap.size, 0, none⟩) t_12.length 5 := by rw [hc_]
  try rw [hv_]
  replace Ot_12 := Lib.hid (own_len hc_ Ot_12.out)
  clear hc_ hv_
  go_wp2_with fail
  go_at_call 75
  refine (Go.Proofs.Ythkaeighfjadlaa.GsL1CurAmong.C (t_9_tp) (t_12) (some ⟨wt_9.heap.size, 0, none⟩) 5 (g0) (Ac0) (cc0) (bc0) _   (Lib.hid (own_cells Ot_12.out)) (Lib.hid (own_max Ot_12.out)) Kt_9 (Lib.hid (fun _ => Dt_12_c0.out)) qt_13).mono ?_
  rintro e_t_13 wt_13 ⟨rfl, kt_13, gt_13⟩
  have Kt_13 := Lib.hid kt_13
  have Gt_13 : Hid (w_t_12.grownBy wt_13 (Value.slice (some ⟨g0, 0, none⟩) 1 1).ownBlock) := Lib.hid gt_13
  clear kt_13 gt_13
  have HBwt_13 := Lib.hid (Aid.grown_tr HBw_t_12.out Gt_13.out)
  replace kt_0_0__5 := cell_other kt_0_0__5 Gt_13.out (Apart.symm Dt_0_c0.out)
  replace kt_0_1__6 := cell_other kt_0_1__6 Gt_13.out (Apart.symm Dt_0_c0.out)
  replace kt_0_2__7 := cell_other kt_0_2__7 Gt_13.out (Apart.symm Dt_0_c0.out)
  replace kt_0_3__8 := cell_other kt_0_3__8 Gt_13.out (Apart.symm Dt_0_c0.out)
  replace Ot_0 := Lib.hid (own_other Ot_0.out Gt_13.out (Apart.symm Dt_0_c0.out))
  replace Ot_2 := Lib.hid (own_other Ot_2.out Gt_13.out (Apart.symm Dt_2_c0.out))
  replace Ot_12 := Lib.hid (own_other Ot_12.out Gt_13.out (Apart.symm Dt_12_c0.out))
  clear Kt_9 Gt_13
  replace H := let_hid H
  obtain ⟨t_14, ht_14, H⟩ := H
  obtain ⟨w_x_16, hw_x_16⟩ : ∃ x, wt_13.alloc (.cells #[.int .i64 t_3, .int .i64 t_7, .int .i64 t_9, .int .i64 t_14] 93) = x := ⟨_, rfl⟩
  have bw_x_16 : Below wt_13.heap.size wt_13 w_x_16 := by rw [← hw_x_16]; exact (Below.refl _ _).alloc (Nat.le_refl _) _
  have Dx_16_t_2 := Lib.hid (apart_fresh Ot_2.out)
  have Dx_16_t_12 := Lib.hid (apart_fresh Ot_12.out)
  have Dx_16_c0 := Lib.hid (Go.Proofs.Ythkaeighfjadlaa.GoC.apart_cur Kt_13.out)
  have Dx_16_t_0 := Lib.hid (apart_box kt_0_0__5)
  have HBw_x_16 := Lib.hid (grown_below HBwt_13.out bw_x_16)
  have kt_0_0__9 := cell_below bw_x_16 kt_0_0__5
  have kt_0_1__10 := cell_below bw_x_16 kt_0_1__6
  have kt_0_2__11 := cell_below bw_x_16 kt_0_2__7
  have kt_0_3__12 := cell_below bw_x_16 kt_0_3__8
  replace Ot_2 := Lib.hid (own_below Ot_2.out bw_x_16)
  replace Ot_12 := Lib.hid (own_below Ot_12.out bw_x_16)
  replace Kt_13 := Lib.hid (Go.Proofs.Ythkaeighfjadlaa.GoC.cur_below Kt_13.out bw_x_16)
  replace Ot_0 := Lib.hid (own_below Ot_0.out bw_x_16)
  clear bw_x_16
  have kx_16_0 : w_x_16.cell? ⟨wt_13.heap.size, 0, none⟩ = some (.int .i64 t_3) := by rw [← hw_x_16]; exact box_new _ _ _ 0 _ rfl
  have kx_16_1 : w_x_16.cell? ⟨wt_13.heap.size, 1, none⟩ = some (.int .i64 t_7) := by rw [← hw_x_16]; exact box_new _ _ _ 1 _ rfl
  have kx_16_2 : w_x_16.cell? ⟨wt_13.heap.size, 2, none⟩ = some (.int .i64 t_9) := by rw [← hw_x_16]; exact box_new _ _ _ 2 _ rfl
  have kx_16_3 : w_x_16.cell? ⟨wt_13.heap.size, 3, none⟩ = some (.int .i64 t_14) := by rw [← hw_x_16]; exact box_new _ _ _ 3 _ rfl
  have Ox_16 : Hid (w_x_16.ownsRow w.heap.size 93 4 (.slice (some ⟨wt_13.heap.size, 0, none⟩) 1 1) 1 [.int .i64 t_3, .int .i64 t_7, .int .i64 t_9, .int .i64 t_14]) := Lib.hid (by rw [← hw_x_16]; exact own_laid (n := 1) HBwt_13.out.size rfl rfl (by unfold maxLen; omega))
  replace H := bind2_hid H
  obtain ⟨t_19, t_19_tp, qt_19, H⟩ := H
  go_wp2_with fail
  clear kt_0_0__5 kt_0_1__6 kt_0_2__7 kt_0_3__8
  go_at_call 122
  refine (Go.Proofs.Ythkaeighfjadlaa.GsL1CurPick.C (t_13_tp) (48) (g0) (Ac0) (cc0) (bc0) _   Kt_13 qt_19).mono ?_
  rintro e_t_19 wt_19 ⟨rfl, kt_19, gt_19⟩
  have Kt_19 := Lib.hid kt_19
  have Gt_19 : Hid (w_x_16.grownBy wt_19 (Value.slice (some ⟨g0, 0, none⟩) 1 1).ownBlock) := Lib.hid gt_19
  clear kt_19 gt_19
  have HBwt_19 := Lib.hid (Aid.grown_tr HBw_x_16.out Gt_19.out)
  replace kt_0_0__9 := cell_other kt_0_0__9 Gt_19.out (Apart.symm Dt_0_c0.out)
  replace kt_0_1__10 := cell_other kt_0_1__10 Gt_19.out (Apart.symm Dt_0_c0.out)
  replace kt_0_2__11 := cell_other kt_0_2__11 Gt_19.out (Apart.symm Dt_0_c0.out)
  replace kt_0_3__12 := cell_other kt_0_3__12 Gt_19.out (Apart.symm Dt_0_c0.out)
  replace kx_16_0 := cell_other kx_16_0 Gt_19.out (Apart.symm Dx_16_c0.out)
  replace kx_16_1 := cell_other kx_16_1 Gt_19.out (Apart.symm Dx_16_c0.out)
  replace kx_16_2 := cell_other kx_16_2 Gt_19.out (Apart.symm Dx_16_c0.out)
  replace kx_16_3 := cell_other kx_16_3 Gt_19.out (Apart.symm Dx_16_c0.out)
  replace Ot_0 := Lib.hid (own_other Ot_0.out Gt_19.out (Apart.symm Dt_0_c0.out))
  replace Ox_16 := Lib.hid (own_other Ox_16.out Gt_19.out (Apart.symm Dx_16_c0.out))
  replace Ot_2 := Lib.hid (own_other Ot_2.out Gt_19.out (Apart.symm Dt_2_c0.out))
  replace Ot_12 := Lib.hid (own_other Ot_12.out Gt_19.out (Apart.symm Dt_12_c0.out))
  clear Kt_13 Gt_19
  replace H := let_hid H
  obtain ⟨t_20, ht_20, H⟩ := H
  cases t_20 with
  | false =>
    replace H := ite_f H
    replace H := let_hid H
    obtain ⟨t_27, ht_27, H⟩ := H
    cases t_27 with
    | false =>
      replace H := ite_f H
      obtain ⟨wb37_37, hwb37_37⟩ : ∃ x, ((((wt_19).setCell ⟨w.heap.size, 0, none⟩ (.int .i64 t_3)).setCell ⟨w.heap.size, 1, none⟩ (.int .i64 t_7)).setCell ⟨w.heap.size, 2, none⟩ (.int .i64 t_9)).setCell ⟨w.heap.size, 3, none⟩ (.int .i64 t_14) = x := ⟨_, rfl⟩
      have z0b37_37 := Ot_0.out.frozenAt 0
      have z1b37_37 := Ot_0.out.frozenAt 1
      have z2b37_37 := Ot_0.out.frozenAt 2
      have z3b37_37 := Ot_0.out.frozenAt 3
      have Sb37_37 := Lib.hid (own_stores [(0, .int .i64 t_3), (1, .int .i64 t_7), (2, .int .i64 t_9), (3, .int .i64 t_14)] Ot_0.out)
      have Pb37_37 : Hid (wb37_37.ownsRow w.heap.size 93 4 (.slice (some ⟨w.heap.size, 0, none⟩) 1 1) 1 [.int .i64 t_3, .int .i64 t_7, .int .i64 t_9, .int .i64 t_14]) := Lib.hid (by rw [← hwb37_37]; exact Sb37_37.out.1)
      have Gb37_37 : Hid (wt_19.grownBy wb37_37 (Value.slice (some ⟨w.heap.size, 0, none⟩) 1 1).ownBlock) := Lib.hid (by rw [← hwb37_37]; exact Sb37_37.out.2)
      have HBwb37_37 := Lib.hid (Go.Proofs.Ythkaeighfjadlaa.GoC.grown_new HBwt_19.out Gb37_37.out (Go.Proofs.Ythkaeighfjadlaa.GoC.own_ge Ot_0.out))
      clear Sb37_37
      have kx_16_0__13 := cell_other kx_16_0 Gb37_37.out (Apart.symm Dx_16_t_0.out)
      have kx_16_1__14 := cell_other kx_16_1 Gb37_37.out (Apart.symm Dx_16_t_0.out)
      have kx_16_2__15 := cell_other kx_16_2 Gb37_37.out (Apart.symm Dx_16_t_0.out)
      have kx_16_3__16 := cell_other kx_16_3 Gb37_37.out (Apart.symm Dx_16_t_0.out)
      replace Ox_16 := Lib.hid (own_other Ox_16.out Gb37_37.out (Apart.symm Dx_16_t_0.out))
      replace Ot_2 := Lib.hid (own_other Ot_2.out Gb37_37.out (Apart.symm Dt_2_t_0.out))
      replace Ot_12 := Lib.hid (own_other Ot_12.out Gb37_37.out (Apart.symm Dt_12_t_0.out))
      replace Kt_19 := Lib.hid (Go.Proofs.Ythkaeighfjadlaa.GoC.cur_otherO Kt_19.out Gb37_37.out Dt_0_c0.out L0 Ot_0.out)
      clear Ot_0 Gb37_37
      have kt_0_0__17 : wb37_37.cell? ⟨w.heap.size, 0, none⟩ = some (.int .i64 t_3) := Pb37_37.out.cells rfl 0 _ rfl
      have kt_0_1__18 : wb37_37.cell? ⟨w.heap.size, 1, none⟩ = some (.int .i64 t_7) := Pb37_37.out.cells rfl 1 _ rfl
      have kt_0_2__19 : wb37_37.cell? ⟨w.heap.size, 2, none⟩ = some (.int .i64 t_9) := Pb37_37.out.cells rfl 2 _ rfl
      have kt_0_3__20 : wb37_37.cell? ⟨w.heap.size, 3, none⟩ = some (.int .i64 t_14) := Pb37_37.out.cells rfl 3 _ rfl
      cases ret_hid H
      go_wp2_with fail
      (try simp only [Exit.inBlock, Exit.then])
      refine bodyPost_ret (v := .agg #[.int .i64 t_3, .int .i64 t_7, .int .i64 t_9, .int .i64 t_14]) ?hr_ ?hd_ ?_
      case hd_ => rfl
      case hr_ => simp [results, Try.results123, kt_0_0__17, kt_0_1__18, kt_0_2__19, kt_0_3__20, go_sem]
      exact ⟨rfl, Kt_19.out, HBwb37_37.out⟩
    | true =>
      replace H := ite_t H
      replace H := let_hid H
      obtain ⟨t_32, ht_32, H⟩ := H
      obtain ⟨w_t_32, hw_t_32⟩ : ∃ x, wt_19.alloc (.cells #[.int .i64 t_3, .int .i64 9999, .int .i64 10000] 3) = x := ⟨_, rfl⟩
      have bw_t_32 : Below wt_19.heap.size wt_19 w_t_32 := by rw [← hw_t_32]; exact (Below.refl _ _).alloc (Nat.le_refl _) _
      have hs_t_32 := HBwt_19.out.size
      have nt_32 : t_32.length = 3 := by rw [← ht_32]; rfl
      have Ot_32 : Hid (w_t_32.ownsRow w.heap.size 3 1 (.slice (some ⟨wt_19.heap.size, 0, none⟩) 3 3) 3 (Go.Proofs.Ythkaeighfjadlaa.HelpInt.iv t_32)) := by
        rw [← hw_t_32, ← ht_32]
        have e_ : ([.int .i64 t_3, .int .i64 9999, .int .i64 10000] : List Value) = (Go.Proofs.Ythkaeighfjadlaa.HelpInt.iv ([t_3, 9999, 10000] : List Int)) := rfl
        exact Lib.hid (own_laid (n := 3) hs_t_32 e_ rfl (by unfold maxLen; omega))
      clear hs_t_32
      have hht_32 := Lib.hid ht_32
      clear ht_32
      replace nt_32 := Lib.hid nt_32
      have Dt_32_t_2 := Lib.hid (apart_fresh Ot_2.out)
      have Dt_32_t_12 := Lib.hid (apart_fresh Ot_12.out)
      have Dt_32_c0 := Lib.hid (Go.Proofs.Ythkaeighfjadlaa.GoC.apart_cur Kt_19.out)
      have Dt_32_t_0 := Lib.hid (apart_box kt_0_0__9)
      have Dt_32_x_16 := Lib.hid (apart_box kx_16_0)
      have HBw_t_32 := Lib.hid (grown_below HBwt_19.out bw_t_32)
      have kt_0_0__21 := cell_below bw_t_32 kt_0_0__9
      have kt_0_1__22 := cell_below bw_t_32 kt_0_1__10
      have kt_0_2__23 := cell_below bw_t_32 kt_0_2__11
      have kt_0_3__24 := cell_below bw_t_32 kt_0_3__12
      have kx_16_0__25 := cell_below bw_t_32 kx_16_0
      have kx_16_1__26 := cell_below bw_t_32 kx_16_1
      have kx_16_2__27 := cell_below bw_t_32 kx_16_2
      have kx_16_3__28 := cell_below bw_t_32 kx_16_3
      replace Ot_2 := Lib.hid (own_below Ot_2.out bw_t_32)
      replace Ot_12 := Lib.hid (own_below Ot_12.out bw_t_32)
      replace Kt_19 := Lib.hid (Go.Proofs.Ythkaeighfjadlaa.GoC.cur_below Kt_19.out bw_t_32)
      replace Ot_0 := Lib.hid (own_below Ot_0.out bw_t_32)
      replace Ox_16 := Lib.hid (own_below Ox_16.out bw_t_32)
      clear bw_t_32
      replace H := bind2_hid H
      obtain ⟨t_33, t_33_tp, qt_33, H⟩ := H
      go_wp2_with fail
      clear kt_0_0__9 kt_0_1__10 kt_0_2__11 kt_0_3__12 kx_16_0 kx_16_1 kx_16_2 kx_16_3
      have hc_ := nt_32.out
      have hv_ : (Value.slice (some ⟨wt_19.heap.size, 0, none⟩) 3 3 : Value) = Value.slice (some ⟨wt_19.heap.size, 0, none⟩) t_32.length 3 := by rw [hc_]
      try rw [hv_]
      replace Ot_32 := Lib.hid (own_len hc_ Ot_32.out)
      clear hc_ hv_
      go_wp2_with fail
      go_at_call 75
      refine (Go.Proofs.Ythkaeighfjadlaa.GsL1CurAmong.C (t_19_tp) (t_32) (some ⟨wt_19.heap.size, 0, none⟩) 3 (g0) (Ac0) (cc0) (bc0) _   (Lib.hid (own_cells Ot_32.out)) (Lib.hid (own_max Ot_32.out)) Kt_19 (Lib.hid (fun _ => Dt_32_c0.out)) qt_33).mono ?_
      rintro e_t_33 wt_33 ⟨rfl, kt_33, gt_33⟩
      have Kt_33 := Lib.hid kt_33
      have Gt_33 : Hid (w_t_32.grownBy wt_33 (Value.slice (some ⟨g0, 0, none⟩) 1 1).ownBlock) := Lib.hid gt_33
      clear kt_33 gt_33
      have HBwt_33 := Lib.hid (Aid.grown_tr HBw_t_32.out Gt_33.out)
      replace kt_0_0__21 := cell_other kt_0_0__21 Gt_33.out (Apart.symm Dt_0_c0.out)
      replace kt_0_1__22 := cell_other kt_0_1__22 Gt_33.out (Apart.symm Dt_0_c0.out)
      replace kt_0_2__23 := cell_other kt_0_2__23 Gt_33.out (Apart.symm Dt_0_c0.out)
      replace kt_0_3__24 := cell_other kt_0_3__24 Gt_33.out (Apart.symm Dt_0_c0.out)
      replace kx_16_0__25 := cell_other kx_16_0__25 Gt_33.out (Apart.symm Dx_16_c0.out)
      replace kx_16_1__26 := cell_other kx_16_1__26 Gt_33.out (Apart.symm Dx_16_c0.out)
      replace kx_16_2__27 := cell_other kx_16_2__27 Gt_33.out (Apart.symm Dx_16_c0.out)
      replace kx_16_3__28 := cell_other kx_16_3__28 Gt_33.out (Apart.symm Dx_16_c0.out)
      replace Ot_0 := Lib.hid (own_other Ot_0.out Gt_33.out (Apart.symm Dt_0_c0.out))
      replace Ox_16 := Lib.hid (own_other Ox_16.out Gt_33.out (Apart.symm Dx_16_c0.out))
      replace Ot_2 := Lib.hid (own_other Ot_2.out Gt_33.out (Apart.symm Dt_2_c0.out))
      replace Ot_12 := Lib.hid (own_other Ot_12.out Gt_33.out (Apart.symm Dt_12_c0.out))
      replace Ot_32 := Lib.hid (own_other Ot_32.out Gt_33.out (Apart.symm Dt_32_c0.out))
      clear Kt_19 Gt_33
      obtain ⟨wb35_35, hwb35_35⟩ : ∃ x, (wt_33).setCell ⟨wt_13.heap.size, 3, none⟩ (.int .i64 t_33) = x := ⟨_, rfl⟩
      have z0b35_35 := Ox_16.out.frozenAt 3
      have Sb35_35 := Lib.hid (own_stores [(3, .int .i64 t_33)] Ox_16.out)
      have Pb35_35 : Hid (wb35_35.ownsRow w.heap.size 93 4 (.slice (some ⟨wt_13.heap.size, 0, none⟩) 1 1) 1 [.int .i64 t_3, .int .i64 t_7, .int .i64 t_9, .int .i64 t_33]) := Lib.hid (by rw [← hwb35_35]; exact Sb35_35.out.1)
      have Gb35_35 : Hid (wt_33.grownBy wb35_35 (Value.slice (some ⟨wt_13.heap.size, 0, none⟩) 1 1).ownBlock) := Lib.hid (by rw [← hwb35_35]; exact Sb35_35.out.2)
      have HBwb35_35 := Lib.hid (Go.Proofs.Ythkaeighfjadlaa.GoC.grown_new HBwt_33.out Gb35_35.out (Go.Proofs.Ythkaeighfjadlaa.GoC.own_ge Ox_16.out))
      clear Sb35_35
      have kt_0_0__29 := cell_other kt_0_0__21 Gb35_35.out Dx_16_t_0.out
      have kt_0_1__30 := cell_other kt_0_1__22 Gb35_35.out Dx_16_t_0.out
      have kt_0_2__31 := cell_other kt_0_2__23 Gb35_35.out Dx_16_t_0.out
      have kt_0_3__32 := cell_other kt_0_3__24 Gb35_35.out Dx_16_t_0.out
      replace Ot_0 := Lib.hid (own_other Ot_0.out Gb35_35.out Dx_16_t_0.out)
      replace Ot_2 := Lib.hid (own_other Ot_2.out Gb35_35.out Dx_16_t_2.out)
      replace Ot_12 := Lib.hid (own_other Ot_12.out Gb35_35.out Dx_16_t_12.out)
      replace Ot_32 := Lib.hid (own_other Ot_32.out Gb35_35.out (Apart.symm Dt_32_x_16.out))
      replace Kt_33 := Lib.hid (Go.Proofs.Ythkaeighfjadlaa.GoC.cur_otherO Kt_33.out Gb35_35.out Dx_16_c0.out L0 Ox_16.out)
      clear Ox_16 Gb35_35
      have kx_16_0__33 : wb35_35.cell? ⟨wt_13.heap.size, 0, none⟩ = some (.int .i64 t_3) := Pb35_35.out.cells rfl 0 _ rfl
      have kx_16_1__34 : wb35_35.cell? ⟨wt_13.heap.size, 1, none⟩ = some (.int .i64 t_7) := Pb35_35.out.cells rfl 1 _ rfl
      have kx_16_2__35 : wb35_35.cell? ⟨wt_13.heap.size, 2, none⟩ = some (.int .i64 t_9) := Pb35_35.out.cells rfl 2 _ rfl
      have kx_16_3__36 : wb35_35.cell? ⟨wt_13.heap.size, 3, none⟩ = some (.int .i64 t_33) := Pb35_35.out.cells rfl 3 _ rfl
      obtain ⟨wb37_37, hwb37_37⟩ : ∃ x, ((((wb35_35).setCell ⟨w.heap.size, 0, none⟩ (.int .i64 t_3)).setCell ⟨w.heap.size, 1, none⟩ (.int .i64 t_7)).setCell ⟨w.heap.size, 2, none⟩ (.int .i64 t_9)).setCell ⟨w.heap.size, 3, none⟩ (.int .i64 t_33) = x := ⟨_, rfl⟩
      have z0b37_37 := Ot_0.out.frozenAt 0
      have z1b37_37 := Ot_0.out.frozenAt 1
      have z2b37_37 := Ot_0.out.frozenAt 2
      have z3b37_37 := Ot_0.out.frozenAt 3
      have Sb37_37 := Lib.hid (own_stores [(0, .int .i64 t_3), (1, .int .i64 t_7), (2, .int .i64 t_9), (3, .int .i64 t_33)] Ot_0.out)
      have Pb37_37 : Hid (wb37_37.ownsRow w.heap.size 93 4 (.slice (some ⟨w.heap.size, 0, none⟩) 1 1) 1 [.int .i64 t_3, .int .i64 t_7, .int .i64 t_9, .int .i64 t_33]) := Lib.hid (by rw [← hwb37_37]; exact Sb37_37.out.1)
      have Gb37_37 : Hid (wb35_35.grownBy wb37_37 (Value.slice (some ⟨w.heap.size, 0, none⟩) 1 1).ownBlock) := Lib.hid (by rw [← hwb37_37]; exact Sb37_37.out.2)
      have HBwb37_37 := Lib.hid (Go.Proofs.Ythkaeighfjadlaa.GoC.grown_new HBwb35_35.out Gb37_37.out (Go.Proofs.Ythkaeighfjadlaa.GoC.own_ge Ot_0.out))
      clear Sb37_37
      have kx_16_0__37 := cell_other kx_16_0__33 Gb37_37.out (Apart.symm Dx_16_t_0.out)
      have kx_16_1__38 := cell_other kx_16_1__34 Gb37_37.out (Apart.symm Dx_16_t_0.out)
      have kx_16_2__39 := cell_other kx_16_2__35 Gb37_37.out (Apart.symm Dx_16_t_0.out)
      have kx_16_3__40 := cell_other kx_16_3__36 Gb37_37.out (Apart.symm Dx_16_t_0.out)
      replace Pb35_35 := Lib.hid (own_other Pb35_35.out Gb37_37.out (Apart.symm Dx_16_t_0.out))
      replace Ot_2 := Lib.hid (own_other Ot_2.out Gb37_37.out (Apart.symm Dt_2_t_0.out))
      replace Ot_12 := Lib.hid (own_other Ot_12.out Gb37_37.out (Apart.symm Dt_12_t_0.out))
      replace Ot_32 := Lib.hid (own_other Ot_32.out Gb37_37.out (Apart.symm Dt_32_t_0.out))
      replace Kt_33 := Lib.hid (Go.Proofs.Ythkaeighfjadlaa.GoC.cur_otherO Kt_33.out Gb37_37.out Dt_0_c0.out L0 Ot_0.out)
      clear Ot_0 Gb37_37
      have kt_0_0__41 : wb37_37.cell? ⟨w.heap.size, 0, none⟩ = some (.int .i64 t_3) := Pb37_37.out.cells rfl 0 _ rfl
      have kt_0_1__42 : wb37_37.cell? ⟨w.heap.size, 1, none⟩ = some (.int .i64 t_7) := Pb37_37.out.cells rfl 1 _ rfl
      have kt_0_2__43 : wb37_37.cell? ⟨w.heap.size, 2, none⟩ = some (.int .i64 t_9) := Pb37_37.out.cells rfl 2 _ rfl
      have kt_0_3__44 : wb37_37.cell? ⟨w.heap.size, 3, none⟩ = some (.int .i64 t_33) := Pb37_37.out.cells rfl 3 _ rfl
      cases ret_hid H
      go_wp2_with fail
      (try simp only [Exit.inBlock, Exit.then])
      refine bodyPost_ret (v := .agg #[.int .i64 t_3, .int .i64 t_7, .int .i64 t_9, .int .i64 t_33]) ?hr_ ?hd_ ?_
      case hd_ => rfl
      case hr_ => simp [results, Try.results123, kt_0_0__41, kt_0_1__42, kt_0_2__43, kt_0_3__44, go_sem]
      exact ⟨rfl, Kt_33.out, HBwb37_37.out⟩
  | true =>
    replace H := ite_t H
    replace H := let_hid H
    obtain ⟨t_23, ht_23, H⟩ := H
    obtain ⟨w_t_23, hw_t_23⟩ : ∃ x, wt_19.alloc (.cells #[.int .i64 (-1), .int .i64 9, .int .i64 10] 3) = x := ⟨_, rfl⟩
    have bw_t_23 : Below wt_19.heap.size wt_19 w_t_23 := by rw [← hw_t_23]; exact (Below.refl _ _).alloc (Nat.le_refl _) _
    have hs_t_23 := HBwt_19.out.size
    have nt_23 : t_23.length = 3 := by rw [← ht_23]; rfl
    have Ot_23 : Hid (w_t_23.ownsRow w.heap.size 3 1 (.slice (some ⟨wt_19.heap.size, 0, none⟩) 3 3) 3 (Go.Proofs.Ythkaeighfjadlaa.HelpInt.iv t_23)) := by
      rw [← hw_t_23, ← ht_23]
      have e_ : ([.int .i64 (-1), .int .i64 9, .int .i64 10] : List Value) = (Go.Proofs.Ythkaeighfjadlaa.HelpInt.iv ([(-1), 9, 10] : List Int)) := rfl
      exact Lib.hid (own_laid (n := 3) hs_t_23 e_ rfl (by unfold maxLen; omega))
    clear hs_t_23
    have hht_23 := Lib.hid ht_23
    clear ht_23
    replace nt_23 := Lib.hid nt_23
    have Dt_23_t_2 := Lib.hid (apart_fresh Ot_2.out)
    have Dt_23_t_12 := Lib.hid (apart_fresh Ot_12.out)
    have Dt_23_c0 := Lib.hid (Go.Proofs.Ythkaeighfjadlaa.GoC.apart_cur Kt_19.out)
    have Dt_23_t_0 := Lib.hid (apart_box kt_0_0__9)
    have Dt_23_x_16 := Lib.hid (apart_box kx_16_0)
    have HBw_t_23 := Lib.hid (grown_below HBwt_19.out bw_t_23)
    have kt_0_0__45 := cell_below bw_t_23 kt_0_0__9
    have kt_0_1__46 := cell_below bw_t_23 kt_0_1__10
    have kt_0_2__47 := cell_below bw_t_23 kt_0_2__11
    have kt_0_3__48 := cell_below bw_t_23 kt_0_3__12
    have kx_16_0__49 := cell_below bw_t_23 kx_16_0
    have kx_16_1__50 := cell_below bw_t_23 kx_16_1
    have kx_16_2__51 := cell_below bw_t_23 kx_16_2
    have kx_16_3__52 := cell_below bw_t_23 kx_16_3
    replace Ot_2 := Lib.hid (own_below Ot_2.out bw_t_23)
    replace Ot_12 := Lib.hid (own_below Ot_12.out bw_t_23)
    replace Kt_19 := Lib.hid (Go.Proofs.Ythkaeighfjadlaa.GoC.cur_below Kt_19.out bw_t_23)
    replace Ot_0 := Lib.hid (own_below Ot_0.out bw_t_23)
    replace Ox_16 := Lib.hid (own_below Ox_16.out bw_t_23)
    clear bw_t_23
    replace H := bind2_hid H
    obtain ⟨t_24, t_24_tp, qt_24, H⟩ := H
    go_wp2_with fail
    clear kt_0_0__9 kt_0_1__10 kt_0_2__11 kt_0_3__12 kx_16_0 kx_16_1 kx_16_2 kx_16_3
    have hc_ := nt_23.out
    have hv_ : (Value.slice (some ⟨wt_19.heap.size, 0, none⟩) 3 3 : Value) = Value.slice (some ⟨wt_19.heap.size, 0, none⟩) t_23.length 3 := by rw [hc_]
    try rw [hv_]
    replace Ot_23 := Lib.hid (own_len hc_ Ot_23.out)
    clear hc_ hv_
    go_wp2_with fail
    go_at_call 75
    refine (Go.Proofs.Ythkaeighfjadlaa.GsL1CurAmong.C (t_19_tp) (t_23) (some ⟨wt_19.heap.size, 0, none⟩) 3 (g0) (Ac0) (cc0) (bc0) _   (Lib.hid (own_cells Ot_23.out)) (Lib.hid (own_max Ot_23.out)) Kt_19 (Lib.hid (fun _ => Dt_23_c0.out)) qt_24).mono ?_
    rintro e_t_24 wt_24 ⟨rfl, kt_24, gt_24⟩
    have Kt_24 := Lib.hid kt_24
    have Gt_24 : Hid (w_t_23.grownBy wt_24 (Value.slice (some ⟨g0, 0, none⟩) 1 1).ownBlock) := Lib.hid gt_24
    clear kt_24 gt_24
    have HBwt_24 := Lib.hid (Aid.grown_tr HBw_t_23.out Gt_24.out)
    replace kt_0_0__45 := cell_other kt_0_0__45 Gt_24.out (Apart.symm Dt_0_c0.out)
    replace kt_0_1__46 := cell_other kt_0_1__46 Gt_24.out (Apart.symm Dt_0_c0.out)
    replace kt_0_2__47 := cell_other kt_0_2__47 Gt_24.out (Apart.symm Dt_0_c0.out)
    replace kt_0_3__48 := cell_other kt_0_3__48 Gt_24.out (Apart.symm Dt_0_c0.out)
    replace kx_16_0__49 := cell_other kx_16_0__49 Gt_24.out (Apart.symm Dx_16_c0.out)
    replace kx_16_1__50 := cell_other kx_16_1__50 Gt_24.out (Apart.symm Dx_16_c0.out)
    replace kx_16_2__51 := cell_other kx_16_2__51 Gt_24.out (Apart.symm Dx_16_c0.out)
    replace kx_16_3__52 := cell_other kx_16_3__52 Gt_24.out (Apart.symm Dx_16_c0.out)
    replace Ot_0 := Lib.hid (own_other Ot_0.out Gt_24.out (Apart.symm Dt_0_c0.out))
    replace Ox_16 := Lib.hid (own_other Ox_16.out Gt_24.out (Apart.symm Dx_16_c0.out))
    replace Ot_2 := Lib.hid (own_other Ot_2.out Gt_24.out (Apart.symm Dt_2_c0.out))
    replace Ot_12 := Lib.hid (own_other Ot_12.out Gt_24.out (Apart.symm Dt_12_c0.out))
    replace Ot_23 := Lib.hid (own_other Ot_23.out Gt_24.out (Apart.symm Dt_23_c0.out))
    clear Kt_19 Gt_24
    obtain ⟨wb26_26, hwb26_26⟩ : ∃ x, (wt_24).setCell ⟨wt_13.heap.size, 2, none⟩ (.int .i64 t_24) = x := ⟨_, rfl⟩
    have z0b26_26 := Ox_16.out.frozenAt 2
    have Sb26_26 := Lib.hid (own_stores [(2, .int .i64 t_24)] Ox_16.out)
    have Pb26_26 : Hid (wb26_26.ownsRow w.heap.size 93 4 (.slice (some ⟨wt_13.heap.size, 0, none⟩) 1 1) 1 [.int .i64 t_3, .int .i64 t_7, .int .i64 t_24, .int .i64 t_14]) := Lib.hid (by rw [← hwb26_26]; exact Sb26_26.out.1)
    have Gb26_26 : Hid (wt_24.grownBy wb26_26 (Value.slice (some ⟨wt_13.heap.size, 0, none⟩) 1 1).ownBlock) := Lib.hid (by rw [← hwb26_26]; exact Sb26_26.out.2)
    have HBwb26_26 := Lib.hid (Go.Proofs.Ythkaeighfjadlaa.GoC.grown_new HBwt_24.out Gb26_26.out (Go.Proofs.Ythkaeighfjadlaa.GoC.own_ge Ox_16.out))
    clear Sb26_26
    have kt_0_0__53 := cell_other kt_0_0__45 Gb26_26.out Dx_16_t_0.out
    have kt_0_1__54 := cell_other kt_0_1__46 Gb26_26.out Dx_16_t_0.out
    have kt_0_2__55 := cell_other kt_0_2__47 Gb26_26.out Dx_16_t_0.out
    have kt_0_3__56 := cell_other kt_0_3__48 Gb26_26.out Dx_16_t_0.out
    replace Ot_0 := Lib.hid (own_other Ot_0.out Gb26_26.out Dx_16_t_0.out)
    replace Ot_2 := Lib.hid (own_other Ot_2.out Gb26_26.out Dx_16_t_2.out)
    replace Ot_12 := Lib.hid (own_other Ot_12.out Gb26_26.out Dx_16_t_12.out)
    replace Ot_23 := Lib.hid (own_other Ot_23.out Gb26_26.out (Apart.symm Dt_23_x_16.out))
    replace Kt_24 := Lib.hid (Go.Proofs.Ythkaeighfjadlaa.GoC.cur_otherO Kt_24.out Gb26_26.out Dx_16_c0.out L0 Ox_16.out)
    clear Ox_16 Gb26_26
    have kx_16_0__57 : wb26_26.cell? ⟨wt_13.heap.size, 0, none⟩ = some (.int .i64 t_3) := Pb26_26.out.cells rfl 0 _ rfl
    have kx_16_1__58 : wb26_26.cell? ⟨wt_13.heap.size, 1, none⟩ = some (.int .i64 t_7) := Pb26_26.out.cells rfl 1 _ rfl
    have kx_16_2__59 : wb26_26.cell? ⟨wt_13.heap.size, 2, none⟩ = some (.int .i64 t_24) := Pb26_26.out.cells rfl 2 _ rfl
    have kx_16_3__60 : wb26_26.cell? ⟨wt_13.heap.size, 3, none⟩ = some (.int .i64 t_14) := Pb26_26.out.cells rfl 3 _ rfl
    obtain ⟨wb37_37, hwb37_37⟩ : ∃ x, ((((wb26_26).setCell ⟨w.heap.size, 0, none⟩ (.int .i64 t_3)).setCell ⟨w.heap.size, 1, none⟩ (.int .i64 t_7)).setCell ⟨w.heap.size, 2, none⟩ (.int .i64 t_24)).setCell ⟨w.heap.size, 3, none⟩ (.int .i64 t_14) = x := ⟨_, rfl⟩
    have z0b37_37 := Ot_0.out.frozenAt 0
    have z1b37_37 := Ot_0.out.frozenAt 1
    have z2b37_37 := Ot_0.out.frozenAt 2
    have z3b37_37 := Ot_0.out.frozenAt 3
    have Sb37_37 := Lib.hid (own_stores [(0, .int .i64 t_3), (1, .int .i64 t_7), (2, .int .i64 t_24), (3, .int .i64 t_14)] Ot_0.out)
    have Pb37_37 : Hid (wb37_37.ownsRow w.heap.size 93 4 (.slice (some ⟨w.heap.size, 0, none⟩) 1 1) 1 [.int .i64 t_3, .int .i64 t_7, .int .i64 t_24, .int .i64 t_14]) := Lib.hid (by rw [← hwb37_37]; exact Sb37_37.out.1)
    have Gb37_37 : Hid (wb26_26.grownBy wb37_37 (Value.slice (some ⟨w.heap.size, 0, none⟩) 1 1).ownBlock) := Lib.hid (by rw [← hwb37_37]; exact Sb37_37.out.2)
    have HBwb37_37 := Lib.hid (Go.Proofs.Ythkaeighfjadlaa.GoC.grown_new HBwb26_26.out Gb37_37.out (Go.Proofs.Ythkaeighfjadlaa.GoC.own_ge Ot_0.out))
    clear Sb37_37
    have kx_16_0__61 := cell_other kx_16_0__57 Gb37_37.out (Apart.symm Dx_16_t_0.out)
    have kx_16_1__62 := cell_other kx_16_1__58 Gb37_37.out (Apart.symm Dx_16_t_0.out)
    have kx_16_2__63 := cell_other kx_16_2__59 Gb37_37.out (Apart.symm Dx_16_t_0.out)
    have kx_16_3__64 := cell_other kx_16_3__60 Gb37_37.out (Apart.symm Dx_16_t_0.out)
    replace Pb26_26 := Lib.hid (own_other Pb26_26.out Gb37_37.out (Apart.symm Dx_16_t_0.out))
    replace Ot_2 := Lib.hid (own_other Ot_2.out Gb37_37.out (Apart.symm Dt_2_t_0.out))
    replace Ot_12 := Lib.hid (own_other Ot_12.out Gb37_37.out (Apart.symm Dt_12_t_0.out))
    replace Ot_23 := Lib.hid (own_other Ot_23.out Gb37_37.out (Apart.symm Dt_23_t_0.out))
    replace Kt_24 := Lib.hid (Go.Proofs.Ythkaeighfjadlaa.GoC.cur_otherO Kt_24.out Gb37_37.out Dt_0_c0.out L0 Ot_0.out)
    clear Ot_0 Gb37_37
    have kt_0_0__65 : wb37_37.cell? ⟨w.heap.size, 0, none⟩ = some (.int .i64 t_3) := Pb37_37.out.cells rfl 0 _ rfl
    have kt_0_1__66 : wb37_37.cell? ⟨w.heap.size, 1, none⟩ = some (.int .i64 t_7) := Pb37_37.out.cells rfl 1 _ rfl
    have kt_0_2__67 : wb37_37.cell? ⟨w.heap.size, 2, none⟩ = some (.int .i64 t_24) := Pb37_37.out.cells rfl 2 _ rfl
    have kt_0_3__68 : wb37_37.cell? ⟨w.heap.size, 3, none⟩ = some (.int .i64 t_14) := Pb37_37.out.cells rfl 3 _ rfl
    cases ret_hid H
    go_wp2_with fail
    (try simp only [Exit.inBlock, Exit.then])
    refine bodyPost_ret (v := .agg #[.int .i64 t_3, .int .i64 t_7, .int .i64 t_24, .int .i64 t_14]) ?hr_ ?hd_ ?_
    case hd_ => rfl
    case hr_ => simp [results, Try.results123, kt_0_0__65, kt_0_1__66, kt_0_2__67, kt_0_3__68, go_sem]
    exact ⟨rfl, Kt_24.out, HBwb37_37.out⟩
end Go.Proofs.Ythkaeighfjadlaa.GsL1CurMail

/- loop.example/g01062/spec.l1In as a plain function, and the contract of the program's: where the plain one has an answer, the program has it. Conditions: slices read as lists. -/
namespace Go.Proofs.Ythkaeighfjadlaa.GsL1In
set_option linter.unusedVariables false
set_option linter.unusedSimpArgs false
open Go.RowKit
open Go.Proofs.Ythkaeighfjadlaa.Rowed Go.Proofs.Ythkaeighfjadlaa.Turn Go.Proofs.Ythkaeighfjadlaa.Aid Go.Proofs.Ythkaeighfjadlaa.GoP Go.Proofs.Ythkaeighfjadlaa.GoM

def P (x : Int) (a : Int) (b : Int) : Option (Bool) :=
  letK (decide (a ≤ x)) fun (t_3 : Bool) =>
  joinK (fun (t_8 : Bool) =>
  some t_8) fun jt_8 => iteK t_3 (letK (decide (x ≤ b)) fun (t_7 : Bool) =>
  appK jt_8 t_7) (appK jt_8 false)

set_option maxRecDepth 100000 in
set_option maxHeartbeats 2000000 in
theorem C (x : Int) (a : Int) (b : Int)   (w : World)   {r : Bool} (H : Hid (P x a b = some r)) :
    Calls Try.prog 105 #[.int .i64 x, .int .i64 a, .int .i64 b] w (Gives (.bool r) w) := by
  have HB := Lib.hid (Below.refl w.heap.size w)
  unfold P at H
  go_enter Try.func105, Try.ntmps105
  replace H := let_hid H
  obtain ⟨t_3, ht_3, H⟩ := H
  replace H := join_hid H
  cases t_3 with
  | false =>
    replace H := ite_f H
    replace H := app_hid H
    obtain rfl := ret_hid H
    go_wp2_with fail
    go_ret
    exact ⟨rfl, HB.out⟩
  | true =>
    replace H := ite_t H
    replace H := let_hid H
    obtain ⟨t_7, ht_7, H⟩ := H
    replace H := app_hid H
    obtain rfl := ret_hid H
    go_wp2_with fail
    go_ret
    exact ⟨rfl, HB.out⟩

set_option maxRecDepth 100000 in
set_option maxHeartbeats 2000000 in
theorem C0 (x : Int) (a : Int) (b : Int)   (w : World)   {r : Bool} (H : Hid (P x a b = some r)) :
    Calls Try.prog 105 #[.int .i64 x, .int .i64 a, .int .i64 b] w (fun e w'' => e = .returned (.bool r) ∧ w'' = w) := by
  have HB := Lib.hid (Below.refl w.heap.size w)
  unfold P at H
  go_enter Try.func105, Try.ntmps105
  replace H := let_hid H
  obtain ⟨t_3, ht_3, H⟩ := H
  replace H := join_hid H
  cases t_3 with
  | false =>
    replace H := ite_f H
    replace H := app_hid H
    obtain rfl := ret_hid H
    go_wp2_with fail
    go_ret
    exact ⟨rfl, rfl⟩
  | true =>
    replace H := ite_t H
    replace H := let_hid H
    obtain ⟨t_7, ht_7, H⟩ := H
    replace H := app_hid H
    obtain rfl := ret_hid H
    go_wp2_with fail
    go_ret
    exact ⟨rfl, rfl⟩
end Go.Proofs.Ythkaeighfjadlaa.GsL1In

/- loop.example/g01062/spec.l9Office as a plain function, and the contract of the program's: where the plain one has an answer, the program has it. Conditions: slices read as lists. -/
namespace Go.Proofs.Ythkaeighfjadlaa.GsL9Office
set_option linter.unusedVariables false
set_option linter.unusedSimpArgs false
open Go.RowKit
open Go.Proofs.Ythkaeighfjadlaa.Rowed Go.Proofs.Ythkaeighfjadlaa.Turn Go.Proofs.Ythkaeighfjadlaa.Aid Go.Proofs.Ythkaeighfjadlaa.GoP Go.Proofs.Ythkaeighfjadlaa.GoM

def P (n_0 : Int) : Option (Bool) :=
  Option.bind (Go.Proofs.Ythkaeighfjadlaa.GsL1In.P n_0 0 9) fun (t_2 : Bool) =>
  some t_2

set_option maxRecDepth 100000 in
set_option maxHeartbeats 2000000 in
theorem C (n_0 : Int)   (w : World)   {r : Bool} (H : Hid (P n_0 = some r)) :
    Calls Try.prog 70 #[.int .i64 n_0] w (Gives (.bool r) w) := by
  have HB := Lib.hid (Below.refl w.heap.size w)
  unfold P at H
  go_enter Try.func70, Try.ntmps70
  replace H := bind_hid H
  obtain ⟨t_2, qt_2, H⟩ := H
  go_wp2_with fail
  go_at_call 105
  refine (Go.Proofs.Ythkaeighfjadlaa.GsL1In.C (n_0) (0) (9)  _    qt_2).mono ?_
  rintro e_t_2 wt_2 ⟨rfl, bt_2⟩
  have HBwt_2 := Lib.hid (Below.step HB.out bt_2)
  clear bt_2
  obtain rfl := ret_hid H
  go_wp2_with fail
  go_ret
  exact ⟨rfl, HBwt_2.out⟩
end Go.Proofs.Ythkaeighfjadlaa.GsL9Office

/- loop.example/g01062/spec.l9Minute as a plain function, and the contract of the program's: where the plain one has an answer, the program has it. Conditions: slices read as lists. -/
namespace Go.Proofs.Ythkaeighfjadlaa.GsL9Minute
set_option linter.unusedVariables false
set_option linter.unusedSimpArgs false
open Go.RowKit
open Go.Proofs.Ythkaeighfjadlaa.Rowed Go.Proofs.Ythkaeighfjadlaa.Turn Go.Proofs.Ythkaeighfjadlaa.Aid Go.Proofs.Ythkaeighfjadlaa.GoP Go.Proofs.Ythkaeighfjadlaa.GoM

def P (n_0 : Int) : Option (Bool) :=
  Option.bind (Go.Proofs.Ythkaeighfjadlaa.GsL1In.P n_0 0 9999) fun (t_2 : Bool) =>
  some t_2

set_option maxRecDepth 100000 in
set_option maxHeartbeats 2000000 in
theorem C (n_0 : Int)   (w : World)   {r : Bool} (H : Hid (P n_0 = some r)) :
    Calls Try.prog 121 #[.int .i64 n_0] w (Gives (.bool r) w) := by
  have HB := Lib.hid (Below.refl w.heap.size w)
  unfold P at H
  go_enter Try.func121, Try.ntmps121
  replace H := bind_hid H
  obtain ⟨t_2, qt_2, H⟩ := H
  go_wp2_with fail
  go_at_call 105
  refine (Go.Proofs.Ythkaeighfjadlaa.GsL1In.C (n_0) (0) (9999)  _    qt_2).mono ?_
  rintro e_t_2 wt_2 ⟨rfl, bt_2⟩
  have HBwt_2 := Lib.hid (Below.step HB.out bt_2)
  clear bt_2
  obtain rfl := ret_hid H
  go_wp2_with fail
  go_ret
  exact ⟨rfl, HBwt_2.out⟩
end Go.Proofs.Ythkaeighfjadlaa.GsL9Minute

/- loop.example/g01062/spec.l9One as a plain function, and the contract of the program's: where the plain one has an answer, the program has it. Conditions: slices read as lists. -/
namespace Go.Proofs.Ythkaeighfjadlaa.GsL9One
set_option linter.unusedVariables false
set_option linter.unusedSimpArgs false
open Go.RowKit
open Go.Proofs.Ythkaeighfjadlaa.Rowed Go.Proofs.Ythkaeighfjadlaa.Turn Go.Proofs.Ythkaeighfjadlaa.Aid Go.Proofs.Ythkaeighfjadlaa.GoP Go.Proofs.Ythkaeighfjadlaa.GoM

def P (x : Go.Proofs.Ythkaeighfjadlaa.PMail.Mail) : Option (Bool) :=
  unMail x fun (x_leave : Int) (x_from_ : Int) (x_to_ : Int) (x_arrive : Int) =>
  Option.bind (Go.Proofs.Ythkaeighfjadlaa.GsL9Office.P x_from_) fun (t_4 : Bool) =>
  joinK (fun (t_9 : Bool) =>
  joinK (fun (t_16 : Bool) =>
  joinK (fun (t_21 : Bool) =>
  joinK (fun (t_29 : Bool) =>
  some t_29) fun jt_29 => iteK t_21 (letK (IntKind.i64.wrap (x_arrive - 1)) fun (t_27 : Int) =>
  Option.bind (Go.Proofs.Ythkaeighfjadlaa.GsL1In.P x_leave 0 t_27) fun (t_28 : Bool) =>
  appK jt_29 t_28) (appK jt_29 false)) fun jt_21 => iteK t_16 (Option.bind (Go.Proofs.Ythkaeighfjadlaa.GsL9Minute.P x_arrive) fun (t_20 : Bool) =>
  appK jt_21 t_20) (appK jt_21 false)) fun jt_16 => iteK t_9 (letK (x_from_ != x_to_) fun (t_15 : Bool) =>
  appK jt_16 t_15) (appK jt_16 false)) fun jt_9 => iteK t_4 (Option.bind (Go.Proofs.Ythkaeighfjadlaa.GsL9Office.P x_to_) fun (t_8 : Bool) =>
  appK jt_9 t_8) (appK jt_9 false)

set_option maxRecDepth 100000 in
set_option maxHeartbeats 2000000 in
theorem C (x : Go.Proofs.Ythkaeighfjadlaa.PMail.Mail)   (w : World)   {r : Bool} (H : Hid (P x = some r)) :
    Calls Try.prog 119 #[x.val] w (Gives (.bool r) w) := by
  have HB := Lib.hid (Below.refl w.heap.size w)
  unfold P at H
  obtain ⟨x_leave, x_from_, x_to_, x_arrive⟩ := x
  replace H := unMail_hid H
  unfold Go.Proofs.Ythkaeighfjadlaa.PMail.Mail.val
  go_enter Try.func119, Try.ntmps119
  obtain ⟨w_x_0, hw_x_0⟩ : ∃ x, w.alloc (.cells #[.int .i64 x_leave, .int .i64 x_from_, .int .i64 x_to_, .int .i64 x_arrive] 93) = x := ⟨_, rfl⟩
  have bw_x_0 : Below w.heap.size w w_x_0 := by rw [← hw_x_0]; exact (Below.refl _ _).alloc (Nat.le_refl _) _
  have HBw_x_0 := Lib.hid (Below.step HB.out bw_x_0)
  clear bw_x_0
  have kx_0_0 : w_x_0.cell? ⟨w.heap.size, 0, none⟩ = some (.int .i64 x_leave) := by rw [← hw_x_0]; exact box_new _ _ _ 0 _ rfl
  have kx_0_1 : w_x_0.cell? ⟨w.heap.size, 1, none⟩ = some (.int .i64 x_from_) := by rw [← hw_x_0]; exact box_new _ _ _ 1 _ rfl
  have kx_0_2 : w_x_0.cell? ⟨w.heap.size, 2, none⟩ = some (.int .i64 x_to_) := by rw [← hw_x_0]; exact box_new _ _ _ 2 _ rfl
  have kx_0_3 : w_x_0.cell? ⟨w.heap.size, 3, none⟩ = some (.int .i64 x_arrive) := by rw [← hw_x_0]; exact box_new _ _ _ 3 _ rfl
  replace H := bind_hid H
  obtain ⟨t_4, qt_4, H⟩ := H
  go_wp2_with fail
  go_at_call 70
  refine (Go.Proofs.Ythkaeighfjadlaa.GsL9Office.C (x_from_)  _    qt_4).mono ?_
  rintro e_t_4 wt_4 ⟨rfl, bt_4⟩
  have HBwt_4 := Lib.hid (Below.step HBw_x_0.out bt_4)
  replace kx_0_0 := cell_below bt_4 kx_0_0
  replace kx_0_1 := cell_below bt_4 kx_0_1
  replace kx_0_2 := cell_below bt_4 kx_0_2
  replace kx_0_3 := cell_below bt_4 kx_0_3
  clear bt_4
  replace H := join_hid H
  cases t_4 with
  | false =>
    replace H := ite_f H
    replace H := app_hid H
    replace H := join_hid H
    replace H := ite_f H
    replace H := app_hid H
    replace H := join_hid H
    replace H := ite_f H
    replace H := app_hid H
    replace H := join_hid H
    replace H := ite_f H
    replace H := app_hid H
    obtain rfl := ret_hid H
    go_wp2_with fail
    go_ret
    exact ⟨rfl, HBwt_4.out⟩
  | true =>
    replace H := ite_t H
    replace H := bind_hid H
    obtain ⟨t_8, qt_8, H⟩ := H
    go_wp2_with fail
    go_at_call 70
    refine (Go.Proofs.Ythkaeighfjadlaa.GsL9Office.C (x_to_)  _    qt_8).mono ?_
    rintro e_t_8 wt_8 ⟨rfl, bt_8⟩
    have HBwt_8 := Lib.hid (Below.step HBwt_4.out bt_8)
    replace kx_0_0 := cell_below bt_8 kx_0_0
    replace kx_0_1 := cell_below bt_8 kx_0_1
    replace kx_0_2 := cell_below bt_8 kx_0_2
    replace kx_0_3 := cell_below bt_8 kx_0_3
    clear bt_8
    replace H := app_hid H
    replace H := join_hid H
    cases t_8 with
    | false =>
      replace H := ite_f H
      replace H := app_hid H
      replace H := join_hid H
      replace H := ite_f H
      replace H := app_hid H
      replace H := join_hid H
      replace H := ite_f H
      replace H := app_hid H
      obtain rfl := ret_hid H
      go_wp2_with fail
      go_ret
      exact ⟨rfl, HBwt_8.out⟩
    | true =>
      replace H := ite_t H
      replace H := let_hid H
      obtain ⟨t_15, ht_15, H⟩ := H
      replace H := app_hid H
      replace H := join_hid H
      cases t_15 with
      | false =>
        replace H := ite_f H
        replace H := app_hid H
        replace H := join_hid H
        replace H := ite_f H
        replace H := app_hid H
        obtain rfl := ret_hid H
        go_wp2_with fail
        go_ret
        exact ⟨rfl, HBwt_8.out⟩
      | true =>
        replace H := ite_t H
        replace H := bind_hid H
        obtain ⟨t_20, qt_20, H⟩ := H
        go_wp2_with fail
        go_at_call 121
        refine (Go.Proofs.Ythkaeighfjadlaa.GsL9Minute.C (x_arrive)  _    qt_20).mono ?_
        rintro e_t_20 wt_20 ⟨rfl, bt_20⟩
        have HBwt_20 := Lib.hid (Below.step HBwt_8.out bt_20)
        replace kx_0_0 := cell_below bt_20 kx_0_0
        replace kx_0_1 := cell_below bt_20 kx_0_1
        replace kx_0_2 := cell_below bt_20 kx_0_2
        replace kx_0_3 := cell_below bt_20 kx_0_3
        clear bt_20
        replace H := app_hid H
        replace H := join_hid H
        cases t_20 with
        | false =>
          replace H := ite_f H
          replace H := app_hid H
          obtain rfl := ret_hid H
          go_wp2_with fail
          go_ret
          exact ⟨rfl, HBwt_20.out⟩
        | true =>
          replace H := ite_t H
          replace H := let_hid H
          obtain ⟨t_27, ht_27, H⟩ := H
          replace H := bind_hid H
          obtain ⟨t_28, qt_28, H⟩ := H
          go_wp2_with fail
          go_at_call 105
          refine (Go.Proofs.Ythkaeighfjadlaa.GsL1In.C (x_leave) (0) (t_27)  _    qt_28).mono ?_
          rintro e_t_28 wt_28 ⟨rfl, bt_28⟩
          have HBwt_28 := Lib.hid (Below.step HBwt_20.out bt_28)
          replace kx_0_0 := cell_below bt_28 kx_0_0
          replace kx_0_1 := cell_below bt_28 kx_0_1
          replace kx_0_2 := cell_below bt_28 kx_0_2
          replace kx_0_3 := cell_below bt_28 kx_0_3
          clear bt_28
          replace H := app_hid H
          obtain rfl := ret_hid H
          go_wp2_with fail
          go_ret
          exact ⟨rfl, HBwt_28.out⟩
end Go.Proofs.Ythkaeighfjadlaa.GsL9One

/- (*loop.example/g01062/spec.l1Cur).one as a plain function, and the contract of the program's: where the plain one has an answer, the program has it. Conditions: slices read as lists. -/
namespace Go.Proofs.Ythkaeighfjadlaa.GsL1CurOne
set_option linter.unusedVariables false
set_option linter.unusedSimpArgs false
open Go.RowKit
open Go.Proofs.Ythkaeighfjadlaa.Rowed Go.Proofs.Ythkaeighfjadlaa.Turn Go.Proofs.Ythkaeighfjadlaa.Aid Go.Proofs.Ythkaeighfjadlaa.GoP Go.Proofs.Ythkaeighfjadlaa.GoM

def P (c : Go.Proofs.Ythkaeighfjadlaa.GoC.Tape) (n_1 : Int) : Option (Bool × Go.Proofs.Ythkaeighfjadlaa.GoC.Tape) :=
  bind2 (Go.Proofs.Ythkaeighfjadlaa.GsL1CurPick.P c n_1) fun (t_3 : Int) (t_3_tp : Go.Proofs.Ythkaeighfjadlaa.GoC.Tape) =>
  letK (t_3 == 0) fun (t_4 : Bool) =>
  some (t_4, t_3_tp)

set_option maxRecDepth 100000 in
set_option maxHeartbeats 2000000 in
theorem C (c : Go.Proofs.Ythkaeighfjadlaa.GoC.Tape) (n_1 : Int)   (g0 : Nat) (Ac0 : Option Addr) (cc0 : Nat) (bc0 : Nat) (w : World)   (K0 : Hid (Go.Proofs.Ythkaeighfjadlaa.GoC.CurIs w bc0 g0 Ac0 cc0 c)) {r : Bool} {t_ : Go.Proofs.Ythkaeighfjadlaa.GoC.Tape} (H : Hid (P c n_1 = some (r, t_))) :
    Calls Try.prog 124 #[.pointer (some ⟨g0, 0, none⟩), .int .i64 n_1] w (fun e w' => e = .returned (.bool r) ∧ Go.Proofs.Ythkaeighfjadlaa.GoC.CurIs w' bc0 g0 Ac0 cc0 t_ ∧ w.grownBy w' (Value.slice (some ⟨g0, 0, none⟩) 1 1).ownBlock) := by
  have HB := Lib.hid (Aid.grown_refl w (Value.slice (some ⟨g0, 0, none⟩) 1 1).ownBlock)
  unfold P at H
  have L0 : bc0 ≤ w.heap.size := by have := Go.Proofs.Ythkaeighfjadlaa.GoC.cur_lt K0.out; omega
  go_enter Try.func124, Try.ntmps124
  replace H := bind2_hid H
  obtain ⟨t_3, t_3_tp, qt_3, H⟩ := H
  go_wp2_with fail
  go_at_call 122
  refine (Go.Proofs.Ythkaeighfjadlaa.GsL1CurPick.C (c) (n_1) (g0) (Ac0) (cc0) (bc0) _   K0 qt_3).mono ?_
  rintro e_t_3 wt_3 ⟨rfl, kt_3, gt_3⟩
  have Kt_3 := Lib.hid kt_3
  have Gt_3 : Hid (w.grownBy wt_3 (Value.slice (some ⟨g0, 0, none⟩) 1 1).ownBlock) := Lib.hid gt_3
  clear kt_3 gt_3
  have HBwt_3 := Lib.hid (Aid.grown_tr HB.out Gt_3.out)
  clear K0 Gt_3
  replace H := let_hid H
  obtain ⟨t_4, ht_4, H⟩ := H
  cases ret_hid H
  go_wp2_with fail
  go_ret
  exact ⟨rfl, Kt_3.out, HBwt_3.out⟩
end Go.Proofs.Ythkaeighfjadlaa.GsL1CurOne

/- loop.example/g01062/spec.l9Code as a plain function, and the contract of the program's: where the plain one has an answer, the program has it. Conditions: slices read as lists. -/
namespace Go.Proofs.Ythkaeighfjadlaa.GsL9Code
set_option linter.unusedVariables false
set_option linter.unusedSimpArgs false
open Go.RowKit
open Go.Proofs.Ythkaeighfjadlaa.Rowed Go.Proofs.Ythkaeighfjadlaa.Turn Go.Proofs.Ythkaeighfjadlaa.Aid Go.Proofs.Ythkaeighfjadlaa.GoP Go.Proofs.Ythkaeighfjadlaa.GoM

def P (x : Go.Proofs.Ythkaeighfjadlaa.PMail.Mail) : Option (Int) :=
  unMail x fun (x_leave : Int) (x_from_ : Int) (x_to_ : Int) (x_arrive : Int) =>
  letK (IntKind.i64.wrap (x_leave * 10)) fun (t_4 : Int) =>
  letK (IntKind.i64.wrap (t_4 + x_from_)) fun (t_7 : Int) =>
  letK (IntKind.i64.wrap (t_7 * 10)) fun (t_8 : Int) =>
  letK (IntKind.i64.wrap (t_8 + x_to_)) fun (t_11 : Int) =>
  letK (IntKind.i64.wrap (t_11 * 10000)) fun (t_12 : Int) =>
  letK (IntKind.i64.wrap (t_12 + x_arrive)) fun (t_15 : Int) =>
  some t_15

set_option maxRecDepth 100000 in
set_option maxHeartbeats 2000000 in
theorem C (x : Go.Proofs.Ythkaeighfjadlaa.PMail.Mail)   (w : World)   {r : Int} (H : Hid (P x = some r)) :
    Calls Try.prog 120 #[x.val] w (Gives (.int .i64 r) w) := by
  have HB := Lib.hid (Below.refl w.heap.size w)
  unfold P at H
  obtain ⟨x_leave, x_from_, x_to_, x_arrive⟩ := x
  replace H := unMail_hid H
  unfold Go.Proofs.Ythkaeighfjadlaa.PMail.Mail.val
  go_enter Try.func120, Try.ntmps120
  obtain ⟨w_x_0, hw_x_0⟩ : ∃ x, w.alloc (.cells #[.int .i64 x_leave, .int .i64 x_from_, .int .i64 x_to_, .int .i64 x_arrive] 93) = x := ⟨_, rfl⟩
  have bw_x_0 : Below w.heap.size w w_x_0 := by rw [← hw_x_0]; exact (Below.refl _ _).alloc (Nat.le_refl _) _
  have HBw_x_0 := Lib.hid (Below.step HB.out bw_x_0)
  clear bw_x_0
  have kx_0_0 : w_x_0.cell? ⟨w.heap.size, 0, none⟩ = some (.int .i64 x_leave) := by rw [← hw_x_0]; exact box_new _ _ _ 0 _ rfl
  have kx_0_1 : w_x_0.cell? ⟨w.heap.size, 1, none⟩ = some (.int .i64 x_from_) := by rw [← hw_x_0]; exact box_new _ _ _ 1 _ rfl
  have kx_0_2 : w_x_0.cell? ⟨w.heap.size, 2, none⟩ = some (.int .i64 x_to_) := by rw [← hw_x_0]; exact box_new _ _ _ 2 _ rfl
  have kx_0_3 : w_x_0.cell? ⟨w.heap.size, 3, none⟩ = some (.int .i64 x_arrive) := by rw [← hw_x_0]; exact box_new _ _ _ 3 _ rfl
  replace H := let_hid H
  obtain ⟨t_4, ht_4, H⟩ := H
  replace H := let_hid H
  obtain ⟨t_7, ht_7, H⟩ := H
  replace H := let_hid H
  obtain ⟨t_8, ht_8, H⟩ := H
  replace H := let_hid H
  obtain ⟨t_11, ht_11, H⟩ := H
  replace H := let_hid H
  obtain ⟨t_12, ht_12, H⟩ := H
  replace H := let_hid H
  obtain ⟨t_15, ht_15, H⟩ := H
  obtain rfl := ret_hid H
  go_wp2_with fail
  go_ret
  exact ⟨rfl, HBw_x_0.out⟩
end Go.Proofs.Ythkaeighfjadlaa.GsL9Code

