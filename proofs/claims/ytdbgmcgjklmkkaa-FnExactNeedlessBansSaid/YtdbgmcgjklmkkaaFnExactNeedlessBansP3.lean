/- The texts on which the proof of FnExactNeedlessBans stands, one behind the other (3 of 4). No condition of their own. -/
import Derived.Test.YtdbgmcgjklmkkaaFnExactNeedlessBansP2
import Derived.Deep.AppendLies
import Derived.Test.YtdbgmcgjklmkkaaChecked
import Derived.Test.YtdbgmcgjklmkkaaFnExactNeedlessBansP1
import Derived.WalkKit
import Derived.WalkSpells
import Derived.WalkLawsBesides
import Derived.BigQuiet
import Derived.OwnWalk
import Derived.IntWalk
import Derived.Deep.RegionHeld3
import Derived.Deep.LoopGhost
import Derived.Deep.QuietTactic
import Derived.Lib.QuietBelow
/- Rows of records in one's own memory: clear of a tail; a part taken out (append(s[:i], s[j:]...), clear of what is left behind). No condition. -/
namespace Go.Proofs.Ytdbgmcgjklmkkaa.GoD
set_option linter.unusedVariables false
set_option linter.unusedSimpArgs false
open Go.RowKit
open Go.Proofs.Ytdbgmcgjklmkkaa.Rowed Go.Proofs.Ytdbgmcgjklmkkaa.Turn Go.Proofs.Ytdbgmcgjklmkkaa.GoM Go.Proofs.Ytdbgmcgjklmkkaa.GoK

theorem flatten_rep (zs : List Value) : ∀ (n i : Nat), (List.replicate n zs).flatten[i]? = if i < n * zs.length then some zs[i % zs.length]! else none
  | 0, i => by simp
  | n + 1, i => by
    rw [List.replicate_succ, List.flatten_cons]
    by_cases hi : i < zs.length
    · rw [List.getElem?_append_left hi, Nat.mod_eq_of_lt hi, if_pos (by rw [Nat.succ_mul]; omega), List.getElem?_eq_getElem hi]
      simp [getElem!_pos, hi]
    · have h1 : (i - zs.length < n * zs.length) ↔ (i < (n + 1) * zs.length) := by rw [Nat.succ_mul]; omega
      have h2 : (i - zs.length) % zs.length = i % zs.length := (Nat.mod_eq_sub_mod (by omega)).symm
      rw [List.getElem?_append_right (by omega), flatten_rep zs n (i - zs.length), h2]
      simp only [h1]
theorem rep_len (zs : List Value) (n : Nat) : (List.replicate n zs).flatten.length = n * zs.length := by simp
theorem zero_list (zs : List Value) (n : Nat) : (Builtin.zeroCells zs.toArray n).toList = (List.replicate n zs).flatten := by
  apply List.ext_getElem?
  intro i
  rw [flatten_rep]
  unfold Builtin.zeroCells
  by_cases hi : i < n * zs.length
  · rw [if_pos hi]; simp [hi]
  · rw [if_neg hi, List.getElem?_eq_none (by simp; omega)]
theorem run_clearK {P : Program} (w : World) (t e ty : TypeId) (z : Value) (zs : List Value) (ht : P.underlying t = some (.slice e)) (hv : ∀ w, (zeroValue e).run P w = .ok z w) (hz : z.cells = zs.toArray) (h1 : ∀ u ∈ zs, u.oneCell' = true) (b o n c : Nat) (hn : 0 < n)
    (hc : ∀ j, j < n * zs.length → (w.cell? ⟨b, o + j, none⟩).isSome = true) (hf : ∀ j, j < n * zs.length → w.frozen? ⟨b, o + j, none⟩ = false) :
    (Builtin.clear_ #[t] ty #[.slice (some ⟨b, o, none⟩) n c]).run P w = .ok (.tuple #[]) (w.setCells b o (List.replicate n zs).flatten) := by
  have hl := rep_len zs n
  have hst := run_storeCells_cells (P := P) b o (List.replicate n zs).flatten 0 w (by rw [hl]; simpa using hc) (by rw [hl]; simpa using hf)
    (by intro v hv'; obtain ⟨l, hl1, hl2⟩ := List.mem_flatten.1 hv'; rw [List.eq_of_mem_replicate hl1] at hl2; exact h1 v hl2)
  simp only [Nat.add_zero] at hst
  have hzl := zero_list zs n
  obtain ⟨m, rfl⟩ : ∃ m, n = m + 1 := ⟨n - 1, by omega⟩
  simp [Builtin.clear_, run_underlying ht, hv, hz, hzl, hst]
theorem flat_clear {α : Type} (f : α → List Value) (K : Nat) (hK : ∀ x, (f x).length = K) (l : List α) (q m : Nat) (z : α) : (l.flatMap f).take (q * K) ++ (List.replicate m (f z)).flatten = (l.take q ++ List.replicate m z).flatMap f := by
  rw [flat_take f K hK, List.flatMap_append]
  congr 1
  induction m with
  | zero => rfl
  | succ m ih => rw [List.replicate_succ, List.flatten_cons, List.replicate_succ, List.flatMap_cons, ih]
/-- clear(s[lo:]) of a row of its own, of records -/
theorem own_clearK {P : Program} {t e : TypeId} {i : TypeInfo} {k : IntKind} {K n c b : Nat} {A : Option Addr} {lo : Int} {w : World} {xs ys zs : List Value} {z : Value}
    (ht : P.underlying t = some (.slice (P.elem t))) (he : P.elem t = e) (hi : P.info? e = some i) (hs : i.size = K) (hv : i.zero = some z) (hz : z.cells = zs.toArray) (hzl : zs.length = K) (hK : 0 < K) (h1 : ∀ u ∈ zs, u.oneCell' = true)
    (h : w.ownsRow b e K (.slice A n c) n xs) (hl : 0 ≤ lo ∧ lo ≤ (n : Int)) (hd : xs.take (lo.toNat * K) ++ (List.replicate (n - lo.toNat) zs).flatten = ys) :
    ∃ A' m c' w', (∀ W, (Instr.slice t (.slice A n c) (some (.int k lo)) none none).run P W = .ok (.slice A' m c') W) ∧ (∀ ty, (Builtin.clear_ #[t] ty #[.slice A' m c']).run P w = .ok (.tuple #[]) w') ∧
      w'.ownsRow b e K (.slice A n c) n ys ∧ w.grownBy w' (Value.slice A n c).ownBlock := by
  have hR := own_room h
  have hxs : xs.length = n * K := h.1
  have hsz : ∀ W, (sizeOf (P.elem t)).run P W = .ok K W := by intro W; subst he; simp [sizeOf, typeInfo, hi, hs]
  have hrun : ∀ W, (Instr.slice t (.slice A n c) (some (.int k lo)) none none).run P W = .ok (.slice (if c = lo.toNat then A else A.map (·.add (lo.toNat * K))) (n - lo.toNat) (c - lo.toNat)) W := by
    intro W
    rw [run_slice_l (P := P) W t A n c ht k lo hl.1 hl.2, hsz W]
    rfl
  by_cases hm : n - lo.toNat = 0
  · refine ⟨_, _, _, w, hrun, ?_, ?_, Aid.grown_refl _ _⟩
    · intro ty
      rw [hm]
      generalize (if c = lo.toNat then A else A.map (·.add (lo.toNat * K))) = A'
      cases A' <;> simp [Builtin.clear_, run_underlying ht]
    · have hle : n * K ≤ lo.toNat * K := Nat.mul_le_mul_right K (by omega)
      rw [← hd, hm, List.replicate_zero, List.flatten_nil, List.append_nil, List.take_of_length_le (by omega)]
      exact h
  · obtain ⟨g, rfl⟩ := own_some h (by omega)
    have hne : ¬ c = lo.toNat := by have := hR.1; omega
    have hcl := own_cells h
    have hmul : lo.toNat * K + (n - lo.toNat) * K = n * K := by rw [← Nat.add_mul]; congr 1; omega
    have hget : ∀ j, j < n * K → (w.cell? ⟨g, j, none⟩).isSome = true := by
      intro j hj
      obtain ⟨ad, e0, hc⟩ := hcl.2 (by omega)
      obtain rfl := Option.some.inj e0
      have := hc j xs[j] (List.getElem?_eq_getElem (by omega))
      rw [add_flat, Nat.zero_add] at this
      rw [this]; rfl
    have hadd : (if c = lo.toNat then (some ⟨g, 0, none⟩ : Option Addr) else (some ⟨g, 0, none⟩ : Option Addr).map (·.add (lo.toNat * K))) = some ⟨g, lo.toNat * K, none⟩ := by
      rw [if_neg hne, Option.map_some, add_flat, Nat.zero_add]
    rw [hadd] at hrun
    have hrl : (List.replicate (n - lo.toNat) zs).flatten.length = (n - lo.toNat) * K := by rw [rep_len, hzl]
    have h2 := own_setCells (List.replicate (n - lo.toNat) zs).flatten (lo.toNat * K) h (by rw [hrl]; omega)
    refine ⟨_, _, _, _, hrun, fun ty => ?_, ?_, h2.2⟩
    · exact run_clearK w t e ty z zs (he ▸ ht) (fun w => by simp [zeroValue, typeInfo, hi, hv]) hz h1 g (lo.toNat * K) (n - lo.toNat) (c - lo.toNat) (by omega) (fun j hj => hget _ (by rw [hzl] at hj; omega)) (fun j hj => h.frozenAt _)
    · have e2 : xs.take (lo.toNat * K) ++ (List.replicate (n - lo.toNat) zs).flatten ++ xs.drop (lo.toNat * K + (List.replicate (n - lo.toNat) zs).flatten.length) = ys := by
        rw [hrl, List.drop_of_length_le (by omega), List.append_nil, hd]
      rw [← e2]
      exact h2.1
/-- s[lo:] of a row of its own, to be read -/
theorem slice_view {P : Program} {t e : TypeId} {i : TypeInfo} {k : IntKind} {K n c b : Nat} {A : Option Addr} {lo : Int} {w : World} {xs ys : List Value} {m : Nat}
    (ht : P.underlying t = some (.slice (P.elem t))) (he : P.elem t = e) (hi : P.info? e = some i) (hs : i.size = K) (h : w.ownsRow b e K (.slice A n c) n xs) (hl : 0 ≤ lo ∧ lo ≤ (n : Int)) (hm : n - lo.toNat = m) (hd : xs.drop (lo.toNat * K) = ys) :
    ∃ A' c', (∀ W, (Instr.slice t (.slice A n c) (some (.int k lo)) none none).run P W = .ok (.slice A' m c') W) ∧ (∀ W : World, W.ownsRow b e K (.slice A n c) n xs → Cells W K A' m ys) ∧ Room A' m c' := by
  have hR := own_room h
  subst hm
  have hsz : ∀ W, (sizeOf (P.elem t)).run P W = .ok K W := by intro W; subst he; simp [sizeOf, typeInfo, hi, hs]
  have hrun : ∀ W, (Instr.slice t (.slice A n c) (some (.int k lo)) none none).run P W = .ok (.slice (if c = lo.toNat then A else A.map (·.add (lo.toNat * K))) (n - lo.toNat) (c - lo.toNat)) W := by
    intro W
    rw [run_slice_l (P := P) W t A n c ht k lo hl.1 hl.2, hsz W]
    rfl
  have key : ∀ W : World, W.ownsRow b e K (.slice A n c) n xs → Cells W K (if c = lo.toNat then A else A.map (·.add (lo.toNat * K))) (n - lo.toNat) ys ∧ Room (if c = lo.toNat then A else A.map (·.add (lo.toNat * K))) (n - lo.toNat) (c - lo.toNat) := by
    intro W hW
    obtain ⟨A', c', hr, hC, hM⟩ := slice_tail (P := P) (t := t) (k := k) ht he hi hs (own_cells hW) (own_room hW) hl rfl hd
    have e1 := (hr W).symm.trans (hrun W)
    simp only [Result.ok.injEq, Value.slice.injEq, true_and, and_true] at e1
    obtain ⟨rfl, rfl⟩ := e1
    exact ⟨hC, hM⟩
  exact ⟨_, _, hrun, fun W hW => (key W hW).1, (key w h).2⟩
/-- a part of a row of its own is taken out: append(s[:p], s[q:]...), then clear of what is left behind -/
theorem own_cut {P : Program} {t e : TypeId} {i : TypeInfo} {K n c b : Nat} {A : Option Addr} {w : World} {xs zs : List Value} {z : Value}
    (ht : P.underlying t = some (.slice (P.elem t))) (he : P.elem t = e) (hi : P.info? e = some i) (hs : i.size = K) (hv : i.zero = some z) (hz : z.cells = zs.toArray) (hzl : zs.length = K) (hK : 0 < K) (h1 : ∀ u ∈ zs, u.oneCell' = true) (hx1 : ∀ u ∈ xs, u.oneCell' = true)
    (h : w.ownsRow b e K (.slice A n c) n xs) {p q : Nat} (hpq : p < q) (hq : q ≤ n) :
    ∃ g A1 c1 w1 w2, A = some ⟨g, 0, none⟩ ∧ (∀ W, (Instr.slice t (.slice (some ⟨g, 0, none⟩) n c) none (some (.int .i64 (p : Int))) none).run P W = .ok (.slice (some ⟨g, 0, none⟩) p c) W) ∧
      (∀ W, (Instr.slice t (.slice (some ⟨g, 0, none⟩) n c) (some (.int .i64 (q : Int))) none none).run P W = .ok (.slice A1 (n - q) c1) W) ∧
      (∀ ty, (Builtin.append_ #[t, t] ty #[.slice (some ⟨g, 0, none⟩) p c, .slice A1 (n - q) c1]).run P w = .ok (.slice (some ⟨g, 0, none⟩) (p + (n - q)) c) w1) ∧
      (∀ ty, (Builtin.clear_ #[t] ty #[.slice (some ⟨g, (p + (n - q)) * K, none⟩) (n - (p + (n - q))) (c - (p + (n - q)))]).run P w1 = .ok (.tuple #[]) w2) ∧
      w2.ownsRow b e K (.slice (some ⟨g, 0, none⟩) (p + (n - q)) c) (p + (n - q)) (xs.take (p * K) ++ xs.drop (q * K)) ∧ w.grownBy w2 (some g) := by
  have hR := own_room h
  have hxs : xs.length = n * K := h.1
  obtain ⟨g, rfl⟩ := own_some h (by omega)
  have hsz : ∀ W, (sizeOf (P.elem t)).run P W = .ok K W := by intro W; subst he; simp [sizeOf, typeInfo, hi, hs]
  have hcl := own_cells h
  have hpK : p * K + (q - p) * K = q * K := by rw [← Nat.add_mul]; congr 1; omega
  have hqK : q * K + (n - q) * K = n * K := by rw [← Nat.add_mul]; congr 1; omega
  have hmK : (p + (n - q)) * K = p * K + (n - q) * K := Nat.add_mul _ _ _
  have hmm : (p + (n - q)) * K + (q - p) * K = n * K := by rw [← Nat.add_mul]; congr 1; omega
  have r1 := (slice_head (P := P) (t := t) (k := .i64) (hi := (p : Int)) (m := p) ht he hi hs h ⟨by omega, by omega⟩ (by omega) rfl).1
  have r2 : ∀ W, (Instr.slice t (.slice (some ⟨g, 0, none⟩) n c) (some (.int .i64 (q : Int))) none none).run P W = .ok (.slice (some (if c = q then ⟨g, 0, none⟩ else ⟨g, q * K, none⟩)) (n - q) (c - q)) W := by
    intro W
    rw [run_slice_l (P := P) W t _ n c ht .i64 (q : Int) (by omega) (by omega), hsz W]
    simp only [Result.andThen, sliced, Int.toNat_natCast, Option.map_some, add_flat, Nat.zero_add]
    by_cases hcq : c = q <;> simp [hcq]
  obtain ⟨_, hown⟩ := h
  rcases hown with ⟨h0, _⟩ | ⟨g', cap, cur, e0, hb, hg, hnc, hcm, hcs, htake⟩
  · simp at h0
  simp only [Value.slice.injEq, Option.some.injEq, Addr.mk.injEq, true_and, and_true] at e0
  obtain ⟨rfl, rfl⟩ := e0
  have h : w.ownsRow b e K (.slice (some ⟨g, 0, none⟩) n c) n xs := ⟨hxs, .inr ⟨g, c, cur, rfl, hb, hg, hnc, hcm, hcs, htake⟩⟩
  have hnews : (xs.drop (q * K)).length = (n - q) * i.size := by rw [List.length_drop, hs]; omega
  have hcK : n * K ≤ c * K := Nat.mul_le_mul_right K hnc
  have hcell : ∀ j u, (xs.drop (q * K))[j]? = some u → w.cell? ((if c = q then ⟨g, 0, none⟩ else ⟨g, q * K, none⟩ : Addr).add j) = some u := by
    intro j u hu
    rw [List.getElem?_drop] at hu
    have hlt := (List.getElem?_eq_some_iff.1 hu).1
    obtain ⟨ad, ea, hc⟩ := hcl.2 (by omega)
    obtain rfl := Option.some.inj ea
    have := hc (q * K + j) u hu
    rw [add_flat, Nat.zero_add] at this
    have hne : ¬ c = q := by
      intro ec
      have : n = q := by omega
      rw [this] at hxs
      omega
    rw [if_neg hne, add_flat]
    exact this
  have hfit : p * i.size + (xs.drop (q * K)).length ≤ cur.size := by rw [hnews, hs, hcs]; omega
  have ra := fun ty => run_append_room (P := P) w t ty e i (he ▸ ht) hi g p c cur hg _ (n - q) (c - q) _ hnews hcell (fun u hu => hx1 u (List.mem_of_mem_drop hu)) (by omega) hfit
  obtain ⟨w1, hw1⟩ : ∃ x, w.setRow g (cur.toList.take (p * i.size) ++ xs.drop (q * K) ++ cur.toList.drop (p * i.size + (xs.drop (q * K)).length)).toArray = x := ⟨_, rfl⟩
  rw [hw1] at ra
  have hn2 : (xs.drop (q * K)).length = (n - q) * K := by rw [hnews, hs]
  have hcl2 : cur.toList.length = c * K := by simpa using hcs
  have hpn : p * K ≤ n * K := Nat.mul_le_mul_right K (by omega)
  have hx : ∀ m, m ≤ n * K → cur.toList.take m = xs.take m := by
    intro m hm
    rw [← htake, List.take_take, Nat.min_eq_left hm]
  have ho1 : w1.ownsRow b e K (.slice (some ⟨g, 0, none⟩) n c) n (xs.take (p * K) ++ xs.drop (q * K) ++ (cur.toList.drop (p * K + (n - q) * K)).take ((q - p) * K)) := by
    refine ⟨?_, .inr ⟨g, c, (xs.take (p * K) ++ xs.drop (q * K) ++ cur.toList.drop (p * K + (n - q) * K)).toArray, rfl, hb, ?_, hnc, hcm, ?_, ?_⟩⟩
    · rw [List.length_append, List.length_append, hn2, List.length_take, List.length_take, List.length_drop, hcl2]; omega
    · rw [← hw1, hs, hn2, hx _ hpn]; exact setRow_heap w g cur _ e _ hg
    · rw [List.size_toArray, List.length_append, List.length_append, hn2, List.length_take, List.length_drop, hcl2]; omega
    · rw [List.take_append, List.take_of_length_le (l := xs.take (p * K) ++ xs.drop (q * K)) (by rw [List.length_append, hn2, List.length_take]; omega)]
      congr 2
      rw [List.length_append, hn2, List.length_take]; omega
  have hgr1 : w.grownBy w1 (some g) := by
    rw [← hw1]
    exact ⟨rfl, rfl, rfl, by simp [World.setRow], fun k _ hk => setRow_other w g k _ (fun e => hk (by rw [e]))⟩
  have hrl : (List.replicate (q - p) zs).flatten.length = (q - p) * K := by rw [rep_len, hzl]
  have hl1 : (xs.take (p * K) ++ xs.drop (q * K) ++ (cur.toList.drop (p * K + (n - q) * K)).take ((q - p) * K)).length = n * K := ho1.1
  have hset := own_setCells (List.replicate (q - p) zs).flatten ((p + (n - q)) * K) ho1 (by rw [hrl, hl1]; omega)
  have hcl1 := own_cells ho1
  have hget : ∀ j, j < n * K → (w1.cell? ⟨g, j, none⟩).isSome = true := by
    intro j hj
    obtain ⟨ad, ea, hc⟩ := hcl1.2 (by rw [hl1]; omega)
    obtain rfl := Option.some.inj ea
    have := hc j _ (List.getElem?_eq_getElem (by rw [hl1]; exact hj))
    rw [add_flat, Nat.zero_add] at this
    rw [this]; rfl
  have hcr := fun ty => run_clearK w1 t e ty z zs (he ▸ ht) (fun w => by simp [zeroValue, typeInfo, hi, hv]) hz h1 g ((p + (n - q)) * K) (q - p) (c - (p + (n - q))) (by omega) (fun j hj => hget _ (by rw [hzl] at hj; omega)) (fun j hj => ho1.frozenAt _)
  have hcr2 : ∀ ty, (Builtin.clear_ #[t] ty #[.slice (some ⟨g, (p + (n - q)) * K, none⟩) (n - (p + (n - q))) (c - (p + (n - q)))]).run P w1 = .ok (.tuple #[]) (w1.setCells g ((p + (n - q)) * K) (List.replicate (q - p) zs).flatten) := by rw [show n - (p + (n - q)) = q - p by omega]; exact hcr
  refine ⟨g, _, _, w1, _, rfl, r1, r2, ra, hcr2, ?_, Aid.grown_tr hgr1 hset.2⟩
  have hh := (slice_head (P := P) (t := t) (k := .i64) (hi := ((p + (n - q) : Nat) : Int)) (m := p + (n - q)) ht he hi hs hset.1 ⟨by omega, by omega⟩ (by omega) rfl).2
  rw [Int.toNat_natCast, List.append_assoc, List.take_append_of_le_length (by rw [List.length_take, hl1]; omega), List.take_take, Nat.min_self, List.take_append_of_le_length (by rw [List.length_append, hn2, List.length_take]; omega), List.take_of_length_le (by rw [List.length_append, hn2, List.length_take]; omega)] at hh
  exact hh
/-- an append that is known, as one step of a region that draws its order -/
theorem step_append_run {P : Program} {w : World} {ops : Array Oper} {o : Oper} {a : Act} {K : Act → World → Prop} {Q : Exit → Act → World → Prop} {E : Prop} (hgd : o.guard = none) (s x : Operand) (t : TypeId)
    (ho : o.op = .call { callee := .builtin .append, args := #[s, x], argTypes := #[t, t] }) {sv xv v' : Value} {w' : World} (hs : a.eval s = sv) (hx : a.eval x = xv)
    (hr : ∀ ty, (Builtin.append_ #[t, t] ty #[sv, xv]).run P w = .ok v' w') (h : K (a.put o.dst v') w') :
    if Region.wanted o (yielded ops a.tmps) = true then Oper.wp P o a w K Q else E := by
  have hw : Region.wanted o (yielded ops a.tmps) = true := by simp [Region.wanted, hgd]
  rw [if_pos hw]
  unfold Oper.wp execOp
  simp only [ho, resolve, invoke, builtin, Sem.run_bind, Sem.run_pure, Result.andThen_ok, List.map_toArray, List.map_cons, List.map_nil, hs, hx, hr]
  exact h
end Go.Proofs.Ytdbgmcgjklmkkaa.GoD

/- slices.Delete[[]loop.example/g01062/impl.Ban,loop.example/g01062/impl.Ban] as a plain function, and the contract of the program's: where the plain one has an answer, the program has it. Conditions: slices read as lists. -/
namespace Go.Proofs.Ytdbgmcgjklmkkaa.GxSlicesDeleteLoopExampleG01062ImplBanLoopExampleG01062ImplBan
set_option linter.unusedVariables false
set_option linter.unusedSimpArgs false
open Go.RowKit
open Go.Proofs.Ytdbgmcgjklmkkaa.Rowed Go.Proofs.Ytdbgmcgjklmkkaa.Turn Go.Proofs.Ytdbgmcgjklmkkaa.Aid Go.Proofs.Ytdbgmcgjklmkkaa.GoP Go.Proofs.Ytdbgmcgjklmkkaa.GoM

def P (s_0 : (List Go.Proofs.Ytdbgmcgjklmkkaa.PBan.Ban)) (i_1 : Int) (j_2 : Int) : Option (List Go.Proofs.Ytdbgmcgjklmkkaa.PBan.Ban) :=
  guardK ((0 : Int) ≤ i_1 ∧ i_1 ≤ j_2 ∧ j_2 ≤ (s_0.length : Int)) <|
  some (List.take (Int.toNat i_1) s_0 ++ List.drop (Int.toNat j_2) s_0)

set_option maxRecDepth 100000 in
set_option maxHeartbeats 2000000 in
theorem C (s_0 : (List Go.Proofs.Ytdbgmcgjklmkkaa.PBan.Ban)) (i_1 : Int) (j_2 : Int) (A0 : Option Addr) (c0 : Nat) (b0 : Nat) (w : World) (M0 : Hid (w.ownsRow b0 96 4 (.slice A0 s_0.length c0) s_0.length (Go.Proofs.Ytdbgmcgjklmkkaa.PBan.flat s_0))) (N0 : Hid (s_0.length ≤ 9223372036854775807)) (LB : Hid (b0 ≤ w.heap.size)) {r : (List Go.Proofs.Ytdbgmcgjklmkkaa.PBan.Ban)} (H : Hid (P s_0 i_1 j_2 = some r)) :
    Calls Try.prog 74 #[.slice A0 s_0.length c0, .int .i64 i_1, .int .i64 j_2] w (fun e w' => ∃ A_r c_r, e = .returned (.slice A_r r.length c_r) ∧ w'.ownsRow b0 96 4 (.slice A_r r.length c_r) r.length (Go.Proofs.Ytdbgmcgjklmkkaa.PBan.flat r) ∧ w.grownBy w' (Value.slice A0 s_0.length c0).ownBlock ∧ Go.Proofs.Ytdbgmcgjklmkkaa.GoK.From w A0 A_r) := by
  unfold P at H
  replace H := guard_hid H
  obtain ⟨hg, H⟩ := H
  obtain rfl := ret_hid H
  clear H
  obtain ⟨p, rfl⟩ := Int.eq_ofNat_of_zero_le hg.1
  obtain ⟨q, rfl⟩ := Int.eq_ofNat_of_zero_le (show 0 ≤ j_2 by omega)
  have hp : p ≤ q := by omega
  have hq : q ≤ s_0.length := by omega
  have N0o := N0.out
  have hR := (own_room M0.out).1
  have b0i : (0 : Int) ≤ (p : Int) := by omega
  have b1i : (p : Int) ≤ (q : Int) := by omega
  have b2i : (q : Int) ≤ ((s_0.length : Nat) : Int) := by omega
  have b3i : ((s_0.length : Nat) : Int) ≤ (c0 : Int) := by omega
  clear hg
  simp only [Int.toNat_natCast]
  obtain ⟨i0_96, hi_96, hz0_96, hz1_96, hz2_96⟩ := Aid.info_parts (P := Try.prog) (T := 96) (z := .agg #[.int .i64 0, .int .i64 0, .int .i64 0, .int .i64 0]) (s := 4) (b := 32) (by kernel_rfl)
  have hsz : ∀ W, (sizeOf (Try.prog.elem 29)).run Try.prog W = .ok 4 W := by intro W; rw [show Try.prog.elem 29 = 96 by kernel_rfl]; simp [sizeOf, typeInfo, hi_96, hz1_96]
  obtain ⟨v0, r0⟩ : ∃ v0, ∀ W, (Instr.slice 29 (.slice A0 s_0.length c0) (some (.int .i64 (p : Int))) (some (.int .i64 (q : Int))) (some (.int .i64 ((s_0.length : Nat) : Int)))).run Try.prog W = .ok v0 W := by
    refine ⟨sliced A0 p q s_0.length 4, fun W => ?_⟩
    rw [run_slice_lhm (P := Try.prog) W 29 _ _ c0 (by kernel_rfl) .i64 .i64 .i64 _ _ _ b0i b1i b2i b3i, hsz W]
    rfl
  by_cases he : p = q
  · subst he
    have hl : List.take p s_0 ++ List.drop p s_0 = s_0 := List.take_append_drop _ _
    rw [hl]
    have he2 : ((p : Int) == (p : Int)) = true := by simp
    go_enter Try.func74, Try.ntmps74
    go_wp2_with fail
    go_ret
    exact ⟨A0, c0, rfl, M0.out, Aid.grown_refl _ _, Go.Proofs.Ytdbgmcgjklmkkaa.GoK.from_self⟩
  · have he2 : ((p : Int) == (q : Int)) = false := by simp; omega
    have he3 : ¬ ((p : Int) = (q : Int)) := by omega
    have bd : Below w.heap.size w w.drew := (Below.refl _ _).drew
    have M1 := own_below M0.out bd
    obtain ⟨g, A1, c1, w1, w2, rfl, r1, r2, ra, rc, ho, hgr⟩ := Go.Proofs.Ytdbgmcgjklmkkaa.GoD.own_cut (P := Try.prog) (t := 29) (e := 96) (zs := [.int .i64 0, .int .i64 0, .int .i64 0, .int .i64 0]) (by kernel_rfl) (by kernel_rfl) hi_96 hz1_96 hz0_96 (by rfl) (by rfl) (by decide) (by intro u_ hu_; simp only [List.mem_cons, List.not_mem_nil, or_false] at hu_; rcases hu_ with rfl | rfl | rfl | rfl <;> rfl) (fun u hu => by obtain ⟨y_, _, hy_⟩ := List.mem_flatMap.1 hu; simp only [Go.Proofs.Ytdbgmcgjklmkkaa.PBan.Ban.cells, List.mem_cons, List.not_mem_nil, or_false] at hy_; rcases hy_ with rfl | rfl | rfl | rfl <;> rfl) M1 (p := p) (q := q) (by omega) hq
    have ec : (Go.Proofs.Ytdbgmcgjklmkkaa.PBan.flat (List.take p s_0 ++ List.drop q s_0)) = ((Go.Proofs.Ytdbgmcgjklmkkaa.PBan.flat s_0)).take (p * 4) ++ ((Go.Proofs.Ytdbgmcgjklmkkaa.PBan.flat s_0)).drop (q * 4) := by
      show List.flatMap Go.Proofs.Ytdbgmcgjklmkkaa.PBan.Ban.cells _ = List.take _ (List.flatMap Go.Proofs.Ytdbgmcgjklmkkaa.PBan.Ban.cells s_0) ++ List.drop _ (List.flatMap Go.Proofs.Ytdbgmcgjklmkkaa.PBan.Ban.cells s_0)
      rw [flat_take Go.Proofs.Ytdbgmcgjklmkkaa.PBan.Ban.cells 4 (fun _ => rfl) _ _, flat_drop Go.Proofs.Ytdbgmcgjklmkkaa.PBan.Ban.cells 4 (fun _ => rfl) _ _, List.flatMap_append]
    have hn : (List.take p s_0 ++ List.drop q s_0).length = p + (s_0.length - q) := by rw [List.length_append, List.length_take, List.length_drop]; omega
    rw [ec, hn]
    clear M1 ec
    go_enter Try.func74, Try.ntmps74
    go_wp2_with fail
    go_region_held3 (fun w' => Hid (0 ≤ w'.heap.size)) (exact Lib.hid (Nat.zero_le _)) (refine Go.Proofs.Ytdbgmcgjklmkkaa.GoD.step_append_run (w := w.drew) rfl (.tmp 22) (.tmp 25) 29 rfl rfl rfl ra ?_)
    go_wp2_with fail
    go_ret
    exact ⟨_, c0, rfl, ho, Aid.grown_tr (World.grownBy.trans (by exact ⟨rfl, rfl, rfl, Nat.le_refl _, fun _ _ _ => rfl⟩ : w.grownBy w.drew _) hgr) (Aid.grown_refl _ _), Go.Proofs.Ytdbgmcgjklmkkaa.GoK.from_self⟩
end Go.Proofs.Ytdbgmcgjklmkkaa.GxSlicesDeleteLoopExampleG01062ImplBanLoopExampleG01062ImplBan

/- loop.example/g01062/impl.NeedlessBans as a plain function, and the contract of the program's: where the plain one has an answer, the program has it. Conditions: slices read as lists. -/
namespace Go.Proofs.Ytdbgmcgjklmkkaa.GiNeedlessBans
set_option linter.unusedVariables false
set_option linter.unusedSimpArgs false
open Go.RowKit
open Go.Proofs.Ytdbgmcgjklmkkaa.Rowed Go.Proofs.Ytdbgmcgjklmkkaa.Turn Go.Proofs.Ytdbgmcgjklmkkaa.Aid Go.Proofs.Ytdbgmcgjklmkkaa.GoP Go.Proofs.Ytdbgmcgjklmkkaa.GoM

def l0 (t_sizes : (List Int)) (t_bans : (List Go.Proofs.Ytdbgmcgjklmkkaa.PBan.Ban)) (fuel : Nat) (t_12 : (List (List Int))) (k0 : Nat) (s : (List Int)) (nx0 bk0 : (List Int) → Option ((List Int) × Bool)) : Option ((List Int) × Bool) :=
  letK s fun needless_4l0 =>
  Option.bind (Go.Proofs.Ytdbgmcgjklmkkaa.GxSlicesCloneLoopExampleG01062ImplBanLoopExampleG01062ImplBan.P t_bans) fun (t_26 : (List Go.Proofs.Ytdbgmcgjklmkkaa.PBan.Ban)) =>
  letK (IntKind.i64.wrap ((k0 : Int) + 1)) fun (t_29 : Int) =>
  Option.bind (Go.Proofs.Ytdbgmcgjklmkkaa.GxSlicesDeleteLoopExampleG01062ImplBanLoopExampleG01062ImplBan.P t_26 (k0 : Int) t_29) fun (t_30 : (List Go.Proofs.Ytdbgmcgjklmkkaa.PBan.Ban)) =>
  Option.bind (Go.Proofs.Ytdbgmcgjklmkkaa.GiCompatibleKinds.P fuel t_sizes t_30) fun (t_35 : (List (List Int))) =>
  letK ((t_35.length : Int) == (t_12.length : Int)) fun (t_38 : Bool) =>
  iteK t_38
  (guardK (needless_4l0.length ≤ 1099511627776) <|
  letK (needless_4l0 ++ [(k0 : Int)]) fun (t_42 : (List Int)) =>
  appK nx0 (t_42))
  (appK nx0 (needless_4l0))

def e0  (s : (List Int)) : Option ((List Int) × Bool) :=
  letK s fun needless_4l0 =>
  some (needless_4l0, true)

def P (fuel : Nat) (t_sizes : (List Int)) (t_bans : (List Go.Proofs.Ytdbgmcgjklmkkaa.PBan.Ban)) : Option ((List Int) × Bool) :=
  Option.bind (Go.Proofs.Ytdbgmcgjklmkkaa.GiIsKindTable.P t_sizes t_bans) fun (t_4 : Bool) =>
  letK (!t_4) fun (t_5 : Bool) =>
  iteK t_5
  (some (([] : List Int), false))
  (Option.bind (Go.Proofs.Ytdbgmcgjklmkkaa.GiCompatibleKinds.P fuel t_sizes t_bans) fun (t_12 : (List (List Int))) =>
  cntK (l0 t_sizes t_bans fuel t_12) (t_bans.length) 0 (([] : List Int)) (e0 ))

set_option maxRecDepth 100000 in
set_option maxHeartbeats 2000000 in
theorem C (fuel : Nat) (t_sizes : (List Int)) (t_bans : (List Go.Proofs.Ytdbgmcgjklmkkaa.PBan.Ban)) (A0_0 : Option Addr) (c0_0 : Nat) (A0_1 : Option Addr) (c0_1 : Nat)  (w : World) (M0_0 : Hid (Cells w 1 A0_0 t_sizes.length (Go.Proofs.Ytdbgmcgjklmkkaa.HelpInt.iv t_sizes))) (N0_0 : Hid (t_sizes.length ≤ 9223372036854775807)) (Q0_0 : Hid (Room A0_0 t_sizes.length c0_0)) (M0_1 : Hid (Cells w 4 A0_1 t_bans.length (Go.Proofs.Ytdbgmcgjklmkkaa.PBan.flat t_bans))) (N0_1 : Hid (t_bans.length ≤ 9223372036854775807)) (Q0_1 : Hid (Room A0_1 t_bans.length c0_1))  {r0 : (List Int)} {r1 : Bool} (H : Hid (P fuel t_sizes t_bans = some (r0, r1))) :
    Calls Try.prog 15 #[.agg #[.slice A0_0 t_sizes.length c0_0, .slice A0_1 t_bans.length c0_1]] w (fun e w' => ∃ A_r0 c_r0, e = .returned (.tuple #[.slice A_r0 r0.length c_r0, .bool r1]) ∧ w'.ownsRow w.heap.size 3 1 (.slice A_r0 r0.length c_r0) r0.length (Go.Proofs.Ytdbgmcgjklmkkaa.HelpInt.iv r0) ∧ Below w.heap.size w w') := by
  have HB := Lib.hid (Below.refl w.heap.size w)
  unfold P at H
  have N0_0o := N0_0.out
  have N0_1o := N0_1.out
  obtain ⟨i0_3, hi_3, hz0_3, hz1_3, hz2_3⟩ := Aid.info_parts (P := Try.prog) (T := 3) (z := .int .i64 0) (s := 1) (b := 8) (by kernel_rfl)
  go_enter Try.func15, Try.ntmps15
  obtain ⟨w_t_0, hw_t_0⟩ : ∃ x, w.alloc (.cells #[.slice A0_0 t_sizes.length c0_0, .slice A0_1 t_bans.length c0_1] 31) = x := ⟨_, rfl⟩
  have bw_t_0 : Below w.heap.size w w_t_0 := by rw [← hw_t_0]; exact (Below.refl _ _).alloc (Nat.le_refl _) _
  have HBw_t_0 := Lib.hid (Below.step HB.out bw_t_0)
  clear bw_t_0
  have kt_0_0 : w_t_0.cell? ⟨w.heap.size, 0, none⟩ = some (.slice A0_0 t_sizes.length c0_0) := by rw [← hw_t_0]; exact box_new _ _ _ 0 _ rfl
  have kt_0_1 : w_t_0.cell? ⟨w.heap.size, 1, none⟩ = some (.slice A0_1 t_bans.length c0_1) := by rw [← hw_t_0]; exact box_new _ _ _ 1 _ rfl
  replace H := bind_hid H
  obtain ⟨t_4, qt_4, H⟩ := H
  go_wp2_with fail
  go_at_call 72
  refine (Go.Proofs.Ytdbgmcgjklmkkaa.GiIsKindTable.C (t_sizes) (t_bans) A0_0 c0_0 A0_1 c0_1 _   (Lib.hid (Cells.below M0_0.out HBw_t_0.out)) N0_0 (Lib.hid (Cells.below M0_1.out HBw_t_0.out)) N0_1 qt_4).mono ?_
  rintro e_t_4 wt_4 ⟨rfl, bt_4⟩
  have HBwt_4 := Lib.hid (Below.step HBw_t_0.out bt_4)
  replace kt_0_0 := cell_below bt_4 kt_0_0
  replace kt_0_1 := cell_below bt_4 kt_0_1
  clear bt_4
  cases t_4 with
  | false =>
    replace H := let_hid H
    obtain ⟨t_5, ht_5, H⟩ := H
    obtain rfl : t_5 = true := ht_5.symm
    replace H := ite_t H
    obtain ⟨w_t_6, hw_t_6⟩ : ∃ x, wt_4.alloc (.cells #[] 3) = x := ⟨_, rfl⟩
    have bw_t_6 : Below wt_4.heap.size wt_4 w_t_6 := by rw [← hw_t_6]; exact (Below.refl _ _).alloc (Nat.le_refl _) _
    have Ot_6 : Hid (w_t_6.ownsRow w.heap.size 3 1 (.slice (some ⟨wt_4.heap.size, 0, none⟩) 0 0) 0 []) := Lib.hid (by rw [← hw_t_6]; exact own_empty HBwt_4.out.size)
    have Dt_6_t_0 := Lib.hid (apart_box kt_0_0)
    have HBw_t_6 := Lib.hid (Below.step HBwt_4.out bw_t_6)
    have kt_0_0__237 := cell_below bw_t_6 kt_0_0
    have kt_0_1__238 := cell_below bw_t_6 kt_0_1
    clear bw_t_6
    cases ret_hid H
    go_wp2_with fail
    go_ret2
    exact ⟨(some ⟨wt_4.heap.size, 0, none⟩), 0, rfl, Ot_6.out, HBw_t_6.out⟩
  | true =>
    replace H := let_hid H
    obtain ⟨t_5, ht_5, H⟩ := H
    obtain rfl : t_5 = false := ht_5.symm
    replace H := ite_f H
    obtain ⟨w_t_9, hw_t_9⟩ : ∃ x, wt_4.alloc (.cells #[] 3) = x := ⟨_, rfl⟩
    have bw_t_9 : Below wt_4.heap.size wt_4 w_t_9 := by rw [← hw_t_9]; exact (Below.refl _ _).alloc (Nat.le_refl _) _
    have Ot_9 : Hid (w_t_9.ownsRow w.heap.size 3 1 (.slice (some ⟨wt_4.heap.size, 0, none⟩) 0 0) 0 []) := Lib.hid (by rw [← hw_t_9]; exact own_empty HBwt_4.out.size)
    have Dt_9_t_0 := Lib.hid (apart_box kt_0_0)
    have HBw_t_9 := Lib.hid (Below.step HBwt_4.out bw_t_9)
    have kt_0_0__239 := cell_below bw_t_9 kt_0_0
    have kt_0_1__240 := cell_below bw_t_9 kt_0_1
    clear bw_t_9
    replace H := bind_hid H
    obtain ⟨t_12, qt_12, H⟩ := H
    go_wp2_with fail
    clear kt_0_0 kt_0_1
    go_at_call 73
    refine (Go.Proofs.Ytdbgmcgjklmkkaa.GiCompatibleKinds.C fuel (t_sizes) (t_bans) A0_0 c0_0 A0_1 c0_1 _   (Lib.hid (Cells.below M0_0.out HBw_t_9.out)) N0_0 Q0_0 (Lib.hid (Cells.below M0_1.out HBw_t_9.out)) N0_1 Q0_1 qt_12).mono ?_
    rintro e_t_12 wt_12 ⟨At_12, ct_12, rfl, ⟨Bt_12, ot_12⟩, bt_12⟩
    have Dt_12_t_9 := Lib.hid (Go.Proofs.Ytdbgmcgjklmkkaa.GoN.nest_callrow ot_12 Ot_9.out)
    have Dt_12_t_0 := Lib.hid (Go.Proofs.Ytdbgmcgjklmkkaa.GoN.nest_callbox ot_12 kt_0_0__239)
    have Ot_12 := Lib.hid (Go.Proofs.Ytdbgmcgjklmkkaa.GoN.nest_lower ot_12 HBw_t_9.out.size)
    clear ot_12
    have HBwt_12 := Lib.hid (Below.step HBw_t_9.out bt_12)
    replace kt_0_0__239 := cell_below bt_12 kt_0_0__239
    replace kt_0_1__240 := cell_below bt_12 kt_0_1__240
    replace Ot_9 := Lib.hid (own_below Ot_9.out bt_12)
    clear bt_12
    go_wp2_with fail
    go_loopg [19, 4] (t_bans.length) (fun m_ v19_ v4_ wr => ∃ (k0 : Nat) (needless_4l0 : (List Int)) (Aneedless_4l0 : Option Addr) (cneedless_4l0 : Nat), k0 + m_ = t_bans.length ∧ v19_ = .int .i64 (k0 : Int) ∧ v4_ = .slice Aneedless_4l0 needless_4l0.length cneedless_4l0 ∧ Hid (cntK (l0 t_sizes t_bans fuel t_12) m_ k0 (needless_4l0) (e0 ) = some (r0, r1)) ∧ Hid (Below w.heap.size w wr) ∧ wr.cell? ⟨w.heap.size, 0, none⟩ = some (.slice A0_0 t_sizes.length c0_0) ∧ wr.cell? ⟨w.heap.size, 1, none⟩ = some (.slice A0_1 t_bans.length c0_1) ∧ Hid (wr.ownsRow w.heap.size 3 1 (.slice Aneedless_4l0 needless_4l0.length cneedless_4l0) needless_4l0.length (Go.Proofs.Ytdbgmcgjklmkkaa.HelpInt.iv needless_4l0)) ∧ Hid (Go.Proofs.Ytdbgmcgjklmkkaa.GoN.OwnNest wr (w.heap.size) 22 3 1 Go.Proofs.Ytdbgmcgjklmkkaa.HelpInt.iv At_12 ct_12 t_12 Bt_12) ∧ Hid (∀ y_ ∈ Bt_12, Apart Aneedless_4l0 y_) ∧ Hid (Apart Aneedless_4l0 (some ⟨w.heap.size, 0, none⟩)))
    case atStart => exact ⟨0, _, _, _, by omega, rfl, rfl, H, HBwt_12, kt_0_0__239, kt_0_1__240, Ot_9, Ot_12, Lib.hid Dt_12_t_9.out, Lib.hid Dt_9_t_0.out⟩
    case round =>
      obtain ⟨k0, needless_4l0, Aneedless_4l0, cneedless_4l0, hkm0, rfl, rfl, H, HBwr0, kt_0_0__239, kt_0_1__240, Oneedless_4l0, Ot_12, Dneedless_4l0_t_12, Dneedless_4l0_t_0⟩ := hrel
      rename World => wr0
      cases gk with
      | zero =>
        obtain rfl : k0 = t_bans.length := by omega
        have hc0 : decide (((t_bans.length : Nat) : Int) < ((t_bans.length : Nat) : Int)) = false := by simp
        replace H := cnt_zero H
        unfold e0 at H
        replace H := let_hid H
        obtain ⟨_, rfl, H⟩ := H
        cases ret_hid H
        go_wp2_with fail
        go_ret2
        exact ⟨Aneedless_4l0, cneedless_4l0, rfl, Oneedless_4l0.out, HBwr0.out⟩
      | succ m0 =>
        have hlt0 : k0 < t_bans.length := by omega
        have hc0 : decide ((k0 : Int) < ((t_bans.length : Nat) : Int)) = true := by simp; omega
        replace H := cnt_succ H
        unfold l0 at H
        replace H := let_hid H
        obtain ⟨_, rfl, H⟩ := H
        go_wp2_with fail
        have bd8 : Below wr0.heap.size wr0 wr0.drew := (Below.refl _ _).drew
        have HBwr0.drew := Lib.hid (Below.step HBwr0.out bd8)
        replace kt_0_0__239 := cell_below bd8 kt_0_0__239
        replace kt_0_1__240 := cell_below bd8 kt_0_1__240
        replace Ot_12 := Lib.hid (Go.Proofs.Ytdbgmcgjklmkkaa.GoN.nest_below Ot_12.out bd8)
        replace Oneedless_4l0 := Lib.hid (own_below Oneedless_4l0.out bd8)
        clear bd8
        replace H := bind_hid H
        obtain ⟨t_26, qt_26, H⟩ := H
        replace H := let_hid H
        obtain ⟨t_29, ht_29, H⟩ := H
        replace H := bind_hid H
        obtain ⟨t_30, qt_30, H⟩ := H
        obtain ⟨w_without_32_p268, hw_without_32_p268⟩ : ∃ x, wr0.drew.alloc (.cells #[.slice none 0 0, .slice none 0 0] 31) = x := ⟨_, rfl⟩
        have bw_without_32_p268 : Below wr0.drew.heap.size wr0.drew w_without_32_p268 := by rw [← hw_without_32_p268]; exact (Below.refl _ _).alloc (Nat.le_refl _) _
        have Dwithout_32_t_12_p268 := Lib.hid (Go.Proofs.Ytdbgmcgjklmkkaa.GoN.nest_fresh Ot_12.out)
        have Dwithout_32_needless_4l0_p268 := Lib.hid (apart_fresh Oneedless_4l0.out)
        have Dwithout_32_t_0_p268 := Lib.hid (apart_box kt_0_0__239)
        have HBw_without_32_p268 := Lib.hid (Below.step HBwr0.drew.out bw_without_32_p268)
        have kt_0_0__266_p268 := cell_below bw_without_32_p268 kt_0_0__239
        have kt_0_1__267_p268 := cell_below bw_without_32_p268 kt_0_1__240
        have Ot_12_p268 := Lib.hid (Go.Proofs.Ytdbgmcgjklmkkaa.GoN.nest_below Ot_12.out bw_without_32_p268)
        have Oneedless_4l0_p268 := Lib.hid (own_below Oneedless_4l0.out bw_without_32_p268)
        have kwithout_32_0_p268 : w_without_32_p268.cell? ⟨wr0.heap.size, 0, none⟩ = some (.slice none 0 0) := by rw [← hw_without_32_p268]; exact box_new _ _ _ 0 _ rfl
        have kwithout_32_1_p268 : w_without_32_p268.cell? ⟨wr0.heap.size, 1, none⟩ = some (.slice none 0 0) := by rw [← hw_without_32_p268]; exact box_new _ _ _ 1 _ rfl
        have Owithout_32_p268 : Hid (w_without_32_p268.ownsRow w.heap.size 31 2 (.slice (some ⟨wr0.heap.size, 0, none⟩) 1 1) 1 [.slice none 0 0, .slice none 0 0]) := Lib.hid (by rw [← hw_without_32_p268]; exact own_laid (n := 1) HBwr0.drew.out.size rfl rfl (by unfold maxLen; omega))
        go_region_held3 (fun w' => w'.cell? ⟨w.heap.size, 0, none⟩ = some (.slice A0_0 t_sizes.length c0_0) ∧ w'.cell? ⟨w.heap.size, 1, none⟩ = some (.slice A0_1 t_bans.length c0_1)) (first | exact ⟨kt_0_0__239, kt_0_1__240⟩ | exact ⟨kt_0_0__239_p247, kt_0_1__240_p247⟩ | exact ⟨kt_0_0__239_p247_p248, kt_0_1__240_p247_p248⟩ | exact ⟨kt_0_0__249_p251, kt_0_1__250_p251⟩ | exact ⟨kt_0_0__252_p256, kt_0_1__253_p256⟩ | exact ⟨kt_0_0__257_p259, kt_0_1__258_p259⟩ | exact ⟨kt_0_0__257_p259_p260, kt_0_1__258_p259_p260⟩ | exact ⟨kt_0_0__261_p265, kt_0_1__262_p265⟩ | exact ⟨kt_0_0__266_p268, kt_0_1__267_p268⟩ | exact ⟨kt_0_0__266_p268_p269, kt_0_1__267_p268_p269⟩ | exact ⟨kt_0_0__266_p268_p269_p270, kt_0_1__267_p268_p269_p270⟩ | exact ⟨kt_0_0__271_p275, kt_0_1__272_p275⟩)
            (first
              | (go_at_call 75
                 refine (Go.Proofs.Ytdbgmcgjklmkkaa.GxSlicesCloneLoopExampleG01062ImplBanLoopExampleG01062ImplBan.C (t_bans) A0_1 c0_1 _   (Lib.hid (Cells.below M0_1.out HBwr0.drew.out)) N0_1 Q0_1 qt_26).mono ?_
                 rintro e_t_26_p247 wt_26_p247 ⟨At_26_p247, ct_26_p247, rfl, ot_26_p247, bt_26_p247⟩
                 have Dt_26_t_12_p247 := Lib.hid (Go.Proofs.Ytdbgmcgjklmkkaa.GoN.nest_call ot_26_p247 Ot_12.out)
                 have Dt_26_needless_4l0_p247 := Lib.hid (apart_call ot_26_p247 Oneedless_4l0.out)
                 have Dt_26_t_0_p247 := Lib.hid (apart_callbox ot_26_p247 kt_0_0__239)
                 have Ot_26_p247 := Lib.hid (own_lower ot_26_p247 HBwr0.drew.out.size)
                 have HBwt_26_p247 := Lib.hid (Below.step HBwr0.drew.out bt_26_p247)
                 have kt_0_0__239_p247 := cell_below bt_26_p247 kt_0_0__239
                 have kt_0_1__240_p247 := cell_below bt_26_p247 kt_0_1__240
                 have Ot_12_p247 := Lib.hid (Go.Proofs.Ytdbgmcgjklmkkaa.GoN.nest_below Ot_12.out bt_26_p247)
                 have Oneedless_4l0_p247 := Lib.hid (own_below Oneedless_4l0.out bt_26_p247)
                 clear qt_26
                 obtain ⟨w_without_32_p259, hw_without_32_p259⟩ : ∃ x, wt_26_p247.alloc (.cells #[.slice none 0 0, .slice none 0 0] 31) = x := ⟨_, rfl⟩
                 have bw_without_32_p259 : Below wt_26_p247.heap.size wt_26_p247 w_without_32_p259 := by rw [← hw_without_32_p259]; exact (Below.refl _ _).alloc (Nat.le_refl _) _
                 have Dwithout_32_t_12_p259 := Lib.hid (Go.Proofs.Ytdbgmcgjklmkkaa.GoN.nest_fresh Ot_12_p247.out)
                 have Dwithout_32_needless_4l0_p259 := Lib.hid (apart_fresh Oneedless_4l0_p247.out)
                 have Dwithout_32_t_26_p259 := Lib.hid (apart_fresh Ot_26_p247.out)
                 have Dwithout_32_t_0_p259 := Lib.hid (apart_box kt_0_0__239_p247)
                 have HBw_without_32_p259 := Lib.hid (Below.step HBwt_26_p247.out bw_without_32_p259)
                 have kt_0_0__257_p259 := cell_below bw_without_32_p259 kt_0_0__239_p247
                 have kt_0_1__258_p259 := cell_below bw_without_32_p259 kt_0_1__240_p247
                 have Ot_12_p247_p259 := Lib.hid (Go.Proofs.Ytdbgmcgjklmkkaa.GoN.nest_below Ot_12_p247.out bw_without_32_p259)
                 have Oneedless_4l0_p247_p259 := Lib.hid (own_below Oneedless_4l0_p247.out bw_without_32_p259)
                 have Ot_26_p247_p259 := Lib.hid (own_below Ot_26_p247.out bw_without_32_p259)
                 have kwithout_32_0_p259 : w_without_32_p259.cell? ⟨wt_26_p247.heap.size, 0, none⟩ = some (.slice none 0 0) := by rw [← hw_without_32_p259]; exact box_new _ _ _ 0 _ rfl
                 have kwithout_32_1_p259 : w_without_32_p259.cell? ⟨wt_26_p247.heap.size, 1, none⟩ = some (.slice none 0 0) := by rw [← hw_without_32_p259]; exact box_new _ _ _ 1 _ rfl
                 have Owithout_32_p259 : Hid (w_without_32_p259.ownsRow w.heap.size 31 2 (.slice (some ⟨wt_26_p247.heap.size, 0, none⟩) 1 1) 1 [.slice none 0 0, .slice none 0 0]) := Lib.hid (by rw [← hw_without_32_p259]; exact own_laid (n := 1) HBwt_26_p247.out.size rfl rfl (by unfold maxLen; omega)))
              | (go_at_call 74
                 refine (Go.Proofs.Ytdbgmcgjklmkkaa.GxSlicesDeleteLoopExampleG01062ImplBanLoopExampleG01062ImplBan.C (t_26) ((k0 : Int)) (t_29) At_26_p247 ct_26_p247 w.heap.size _   Ot_26_p247 (Lib.hid (own_max Ot_26_p247.out)) (Lib.hid HBwt_26_p247.out.size)  qt_30).mono ?_
                 rintro e_t_30_p248 wt_30_p248 ⟨At_30_p248, ct_30_p248, rfl, ot_30_p248, gt_30_p248, yt_30_p248⟩
                 have Pt_30_p248 := Lib.hid ot_30_p248
                 have Gt_30_p248 := Lib.hid gt_30_p248
                 have yt_30_p248 := Lib.hid yt_30_p248
                 have HBwt_30_p248 := Lib.hid (HBwt_26_p247.out.grown Gt_30_p248.out HBwt_26_p247.out.size (fun q hq => (Ot_26_p247.out.lt q hq).1))
                 have Dt_30_t_12_p248 : Hid (∀ y_ ∈ Bt_12, Apart At_30_p248 y_) := Lib.hid (fun y_ hy_ => (Go.Proofs.Ytdbgmcgjklmkkaa.GoK.apart_from (Dt_26_t_12_p247.out y_ hy_) (fun a_ ha_ => (Go.Proofs.Ytdbgmcgjklmkkaa.GoN.nest_lt Ot_12_p247.out y_ hy_ a_ ha_).2) yt_30_p248.out))
                 have Dt_30_needless_4l0_p248 : Hid (Apart At_30_p248 _) := Lib.hid (Go.Proofs.Ytdbgmcgjklmkkaa.GoK.apart_from Dt_26_needless_4l0_p247.out (fun a_ ha_ => (own_lt Oneedless_4l0_p247.out a_ ha_).2) yt_30_p248.out)
                 have Dt_30_t_0_p248 : Hid (Apart At_30_p248 _) := Lib.hid (Go.Proofs.Ytdbgmcgjklmkkaa.GoK.apart_from Dt_26_t_0_p247.out (fun a_ ha_ => by cases ha_; exact cell_lt kt_0_0__239_p247) yt_30_p248.out)
                 have kt_0_0__239_p247_p248 := cell_other kt_0_0__239_p247 Gt_30_p248.out Dt_26_t_0_p247.out
                 have kt_0_1__240_p247_p248 := cell_other kt_0_1__240_p247 Gt_30_p248.out Dt_26_t_0_p247.out
                 have Ot_12_p247_p248 := Lib.hid (Go.Proofs.Ytdbgmcgjklmkkaa.GoN.nest_other Ot_12_p247.out Gt_30_p248.out Dt_26_t_12_p247.out)
                 have Oneedless_4l0_p247_p248 := Lib.hid (own_other Oneedless_4l0_p247.out Gt_30_p248.out Dt_26_needless_4l0_p247.out)
                 clear qt_30
                 obtain ⟨w_without_32_p251, hw_without_32_p251⟩ : ∃ x, wt_30_p248.alloc (.cells #[.slice none 0 0, .slice none 0 0] 31) = x := ⟨_, rfl⟩
                 have bw_without_32_p251 : Below wt_30_p248.heap.size wt_30_p248 w_without_32_p251 := by rw [← hw_without_32_p251]; exact (Below.refl _ _).alloc (Nat.le_refl _) _
                 have Dwithout_32_t_12_p251 := Lib.hid (Go.Proofs.Ytdbgmcgjklmkkaa.GoN.nest_fresh Ot_12_p247_p248.out)
                 have Dwithout_32_needless_4l0_p251 := Lib.hid (apart_fresh Oneedless_4l0_p247_p248.out)
                 have Dwithout_32_t_30_p251 := Lib.hid (apart_fresh Pt_30_p248.out)
                 have Dwithout_32_t_0_p251 := Lib.hid (apart_box kt_0_0__239_p247_p248)
                 have HBw_without_32_p251 := Lib.hid (Below.step HBwt_30_p248.out bw_without_32_p251)
                 have kt_0_0__249_p251 := cell_below bw_without_32_p251 kt_0_0__239_p247_p248
                 have kt_0_1__250_p251 := cell_below bw_without_32_p251 kt_0_1__240_p247_p248
                 have Ot_12_p247_p248_p251 := Lib.hid (Go.Proofs.Ytdbgmcgjklmkkaa.GoN.nest_below Ot_12_p247_p248.out bw_without_32_p251)
                 have Oneedless_4l0_p247_p248_p251 := Lib.hid (own_below Oneedless_4l0_p247_p248.out bw_without_32_p251)
                 have Pt_30_p248_p251 := Lib.hid (own_below Pt_30_p248.out bw_without_32_p251)
                 have kwithout_32_0_p251 : w_without_32_p251.cell? ⟨wt_30_p248.heap.size, 0, none⟩ = some (.slice none 0 0) := by rw [← hw_without_32_p251]; exact box_new _ _ _ 0 _ rfl
                 have kwithout_32_1_p251 : w_without_32_p251.cell? ⟨wt_30_p248.heap.size, 1, none⟩ = some (.slice none 0 0) := by rw [← hw_without_32_p251]; exact box_new _ _ _ 1 _ rfl
                 have Owithout_32_p251 : Hid (w_without_32_p251.ownsRow w.heap.size 31 2 (.slice (some ⟨wt_30_p248.heap.size, 0, none⟩) 1 1) 1 [.slice none 0 0, .slice none 0 0]) := Lib.hid (by rw [← hw_without_32_p251]; exact own_laid (n := 1) HBwt_30_p248.out.size rfl rfl (by unfold maxLen; omega))
                 obtain ⟨wb33_33_p256, hwb33_33_p256⟩ : ∃ x, ((w_without_32_p251).setCell ⟨wt_30_p248.heap.size, 0, none⟩ (.slice A0_0 t_sizes.length c0_0)).setCell ⟨wt_30_p248.heap.size, 1, none⟩ (.slice At_30_p248 t_30.length ct_30_p248) = x := ⟨_, rfl⟩
                 have z0b33_33_p256 := Owithout_32_p251.out.frozenAt 0
                 have z1b33_33_p256 := Owithout_32_p251.out.frozenAt 1
                 have Sb33_33_p256 := Lib.hid (own_stores [(0, .slice A0_0 t_sizes.length c0_0), (1, .slice At_30_p248 t_30.length ct_30_p248)] Owithout_32_p251.out)
                 have Pb33_33_p256 : Hid (wb33_33_p256.ownsRow w.heap.size 31 2 (.slice (some ⟨wt_30_p248.heap.size, 0, none⟩) 1 1) 1 [.slice A0_0 t_sizes.length c0_0, .slice At_30_p248 t_30.length ct_30_p248]) := Lib.hid (by rw [← hwb33_33_p256]; exact Sb33_33_p256.out.1)
                 have Gb33_33_p256 : Hid (w_without_32_p251.grownBy wb33_33_p256 (Value.slice (some ⟨wt_30_p248.heap.size, 0, none⟩) 1 1).ownBlock) := Lib.hid (by rw [← hwb33_33_p256]; exact Sb33_33_p256.out.2)
                 have HBwb33_33_p256 := Lib.hid (HBw_without_32_p251.out.grown Gb33_33_p256.out HBw_without_32_p251.out.size (fun q hq => (Owithout_32_p251.out.lt q hq).1))
                 have kt_0_0__252_p256 := cell_other kt_0_0__249_p251 Gb33_33_p256.out Dwithout_32_t_0_p251.out
                 have kt_0_1__253_p256 := cell_other kt_0_1__250_p251 Gb33_33_p256.out Dwithout_32_t_0_p251.out
                 have Ot_12_p247_p248_p251_p256 := Lib.hid (Go.Proofs.Ytdbgmcgjklmkkaa.GoN.nest_other Ot_12_p247_p248_p251.out Gb33_33_p256.out Dwithout_32_t_12_p251.out)
                 have Oneedless_4l0_p247_p248_p251_p256 := Lib.hid (own_other Oneedless_4l0_p247_p248_p251.out Gb33_33_p256.out Dwithout_32_needless_4l0_p251.out)
                 have Pt_30_p248_p251_p256 := Lib.hid (own_other Pt_30_p248_p251.out Gb33_33_p256.out Dwithout_32_t_30_p251.out)
                 have kwithout_32_0_p251__254_p256 : wb33_33_p256.cell? ⟨wt_30_p248.heap.size, 0, none⟩ = some (.slice A0_0 t_sizes.length c0_0) := Pb33_33_p256.out.cells rfl 0 _ rfl
                 have kwithout_32_1_p251__255_p256 : wb33_33_p256.cell? ⟨wt_30_p248.heap.size, 1, none⟩ = some (.slice At_30_p248 t_30.length ct_30_p248) := Pb33_33_p256.out.cells rfl 1 _ rfl)
              | (go_at_call 74
                 refine (Go.Proofs.Ytdbgmcgjklmkkaa.GxSlicesDeleteLoopExampleG01062ImplBanLoopExampleG01062ImplBan.C (t_26) ((k0 : Int)) (t_29) At_26_p247 ct_26_p247 w.heap.size _   Ot_26_p247_p259 (Lib.hid (own_max Ot_26_p247_p259.out)) (Lib.hid HBw_without_32_p259.out.size)  qt_30).mono ?_
                 rintro e_t_30_p260 wt_30_p260 ⟨At_30_p260, ct_30_p260, rfl, ot_30_p260, gt_30_p260, yt_30_p260⟩
                 have Pt_30_p260 := Lib.hid ot_30_p260
                 have Gt_30_p260 := Lib.hid gt_30_p260
                 have yt_30_p260 := Lib.hid yt_30_p260
                 have HBwt_30_p260 := Lib.hid (HBw_without_32_p259.out.grown Gt_30_p260.out HBw_without_32_p259.out.size (fun q hq => (Ot_26_p247_p259.out.lt q hq).1))
                 have Dt_30_t_12_p260 : Hid (∀ y_ ∈ Bt_12, Apart At_30_p260 y_) := Lib.hid (fun y_ hy_ => (Go.Proofs.Ytdbgmcgjklmkkaa.GoK.apart_from (Dt_26_t_12_p247.out y_ hy_) (fun a_ ha_ => (Go.Proofs.Ytdbgmcgjklmkkaa.GoN.nest_lt Ot_12_p247_p259.out y_ hy_ a_ ha_).2) yt_30_p260.out))
                 have Dt_30_needless_4l0_p260 : Hid (Apart At_30_p260 _) := Lib.hid (Go.Proofs.Ytdbgmcgjklmkkaa.GoK.apart_from Dt_26_needless_4l0_p247.out (fun a_ ha_ => (own_lt Oneedless_4l0_p247_p259.out a_ ha_).2) yt_30_p260.out)
                 have Dt_30_t_0_p260 : Hid (Apart At_30_p260 _) := Lib.hid (Go.Proofs.Ytdbgmcgjklmkkaa.GoK.apart_from Dt_26_t_0_p247.out (fun a_ ha_ => by cases ha_; exact cell_lt kt_0_0__257_p259) yt_30_p260.out)
                 have Dt_30_without_32_p260 : Hid (Apart At_30_p260 _) := Lib.hid (Go.Proofs.Ytdbgmcgjklmkkaa.GoK.apart_from (Apart.symm Dwithout_32_t_26_p259.out) (fun a_ ha_ => by cases ha_; exact cell_lt kwithout_32_0_p259) yt_30_p260.out)
                 have kt_0_0__257_p259_p260 := cell_other kt_0_0__257_p259 Gt_30_p260.out Dt_26_t_0_p247.out
                 have kt_0_1__258_p259_p260 := cell_other kt_0_1__258_p259 Gt_30_p260.out Dt_26_t_0_p247.out
                 have kwithout_32_0_p259_p260 := cell_other kwithout_32_0_p259 Gt_30_p260.out (Apart.symm Dwithout_32_t_26_p259.out)
                 have kwithout_32_1_p259_p260 := cell_other kwithout_32_1_p259 Gt_30_p260.out (Apart.symm Dwithout_32_t_26_p259.out)
                 have Owithout_32_p259_p260 := Lib.hid (own_other Owithout_32_p259.out Gt_30_p260.out (Apart.symm Dwithout_32_t_26_p259.out))
                 have Ot_12_p247_p259_p260 := Lib.hid (Go.Proofs.Ytdbgmcgjklmkkaa.GoN.nest_other Ot_12_p247_p259.out Gt_30_p260.out Dt_26_t_12_p247.out)
                 have Oneedless_4l0_p247_p259_p260 := Lib.hid (own_other Oneedless_4l0_p247_p259.out Gt_30_p260.out Dt_26_needless_4l0_p247.out)
                 clear qt_30
                 obtain ⟨wb33_33_p265, hwb33_33_p265⟩ : ∃ x, ((wt_30_p260).setCell ⟨wt_26_p247.heap.size, 0, none⟩ (.slice A0_0 t_sizes.length c0_0)).setCell ⟨wt_26_p247.heap.size, 1, none⟩ (.slice At_30_p260 t_30.length ct_30_p260) = x := ⟨_, rfl⟩
                 have z0b33_33_p265 := Owithout_32_p259_p260.out.frozenAt 0
                 have z1b33_33_p265 := Owithout_32_p259_p260.out.frozenAt 1
                 have Sb33_33_p265 := Lib.hid (own_stores [(0, .slice A0_0 t_sizes.length c0_0), (1, .slice At_30_p260 t_30.length ct_30_p260)] Owithout_32_p259_p260.out)
                 have Pb33_33_p265 : Hid (wb33_33_p265.ownsRow w.heap.size 31 2 (.slice (some ⟨wt_26_p247.heap.size, 0, none⟩) 1 1) 1 [.slice A0_0 t_sizes.length c0_0, .slice At_30_p260 t_30.length ct_30_p260]) := Lib.hid (by rw [← hwb33_33_p265]; exact Sb33_33_p265.out.1)
                 have Gb33_33_p265 : Hid (wt_30_p260.grownBy wb33_33_p265 (Value.slice (some ⟨wt_26_p247.heap.size, 0, none⟩) 1 1).ownBlock) := Lib.hid (by rw [← hwb33_33_p265]; exact Sb33_33_p265.out.2)
                 have HBwb33_33_p265 := Lib.hid (HBwt_30_p260.out.grown Gb33_33_p265.out HBwt_30_p260.out.size (fun q hq => (Owithout_32_p259_p260.out.lt q hq).1))
                 have kt_0_0__261_p265 := cell_other kt_0_0__257_p259_p260 Gb33_33_p265.out Dwithout_32_t_0_p259.out
                 have kt_0_1__262_p265 := cell_other kt_0_1__258_p259_p260 Gb33_33_p265.out Dwithout_32_t_0_p259.out
                 have Ot_12_p247_p259_p260_p265 := Lib.hid (Go.Proofs.Ytdbgmcgjklmkkaa.GoN.nest_other Ot_12_p247_p259_p260.out Gb33_33_p265.out Dwithout_32_t_12_p259.out)
                 have Oneedless_4l0_p247_p259_p260_p265 := Lib.hid (own_other Oneedless_4l0_p247_p259_p260.out Gb33_33_p265.out Dwithout_32_needless_4l0_p259.out)
                 have Pt_30_p260_p265 := Lib.hid (own_other Pt_30_p260.out Gb33_33_p265.out (Apart.symm Dt_30_without_32_p260.out))
                 have kwithout_32_0_p259_p260__263_p265 : wb33_33_p265.cell? ⟨wt_26_p247.heap.size, 0, none⟩ = some (.slice A0_0 t_sizes.length c0_0) := Pb33_33_p265.out.cells rfl 0 _ rfl
                 have kwithout_32_1_p259_p260__264_p265 : wb33_33_p265.cell? ⟨wt_26_p247.heap.size, 1, none⟩ = some (.slice At_30_p260 t_30.length ct_30_p260) := Pb33_33_p265.out.cells rfl 1 _ rfl)
              | (go_at_call 75
                 refine (Go.Proofs.Ytdbgmcgjklmkkaa.GxSlicesCloneLoopExampleG01062ImplBanLoopExampleG01062ImplBan.C (t_bans) A0_1 c0_1 _   (Lib.hid (Cells.below M0_1.out HBw_without_32_p268.out)) N0_1 Q0_1 qt_26).mono ?_
                 rintro e_t_26_p269 wt_26_p269 ⟨At_26_p269, ct_26_p269, rfl, ot_26_p269, bt_26_p269⟩
                 have Dt_26_t_12_p269 := Lib.hid (Go.Proofs.Ytdbgmcgjklmkkaa.GoN.nest_call ot_26_p269 Ot_12_p268.out)
                 have Dt_26_needless_4l0_p269 := Lib.hid (apart_call ot_26_p269 Oneedless_4l0_p268.out)
                 have Dt_26_t_0_p269 := Lib.hid (apart_callbox ot_26_p269 kt_0_0__266_p268)
                 have Dt_26_without_32_p269 := Lib.hid (apart_callbox ot_26_p269 kwithout_32_0_p268)
                 have Ot_26_p269 := Lib.hid (own_lower ot_26_p269 HBw_without_32_p268.out.size)
                 have HBwt_26_p269 := Lib.hid (Below.step HBw_without_32_p268.out bt_26_p269)
                 have kt_0_0__266_p268_p269 := cell_below bt_26_p269 kt_0_0__266_p268
                 have kt_0_1__267_p268_p269 := cell_below bt_26_p269 kt_0_1__267_p268
                 have kwithout_32_0_p268_p269 := cell_below bt_26_p269 kwithout_32_0_p268
                 have kwithout_32_1_p268_p269 := cell_below bt_26_p269 kwithout_32_1_p268
                 have Ot_12_p268_p269 := Lib.hid (Go.Proofs.Ytdbgmcgjklmkkaa.GoN.nest_below Ot_12_p268.out bt_26_p269)
                 have Oneedless_4l0_p268_p269 := Lib.hid (own_below Oneedless_4l0_p268.out bt_26_p269)
                 have Owithout_32_p268_p269 := Lib.hid (own_below Owithout_32_p268.out bt_26_p269)
                 clear qt_26)
              | (go_at_call 74
                 refine (Go.Proofs.Ytdbgmcgjklmkkaa.GxSlicesDeleteLoopExampleG01062ImplBanLoopExampleG01062ImplBan.C (t_26) ((k0 : Int)) (t_29) At_26_p269 ct_26_p269 w.heap.size _   Ot_26_p269 (Lib.hid (own_max Ot_26_p269.out)) (Lib.hid HBwt_26_p269.out.size)  qt_30).mono ?_
                 rintro e_t_30_p270 wt_30_p270 ⟨At_30_p270, ct_30_p270, rfl, ot_30_p270, gt_30_p270, yt_30_p270⟩
                 have Pt_30_p270 := Lib.hid ot_30_p270
                 have Gt_30_p270 := Lib.hid gt_30_p270
                 have yt_30_p270 := Lib.hid yt_30_p270
                 have HBwt_30_p270 := Lib.hid (HBwt_26_p269.out.grown Gt_30_p270.out HBwt_26_p269.out.size (fun q hq => (Ot_26_p269.out.lt q hq).1))
                 have Dt_30_t_12_p270 : Hid (∀ y_ ∈ Bt_12, Apart At_30_p270 y_) := Lib.hid (fun y_ hy_ => (Go.Proofs.Ytdbgmcgjklmkkaa.GoK.apart_from (Dt_26_t_12_p269.out y_ hy_) (fun a_ ha_ => (Go.Proofs.Ytdbgmcgjklmkkaa.GoN.nest_lt Ot_12_p268_p269.out y_ hy_ a_ ha_).2) yt_30_p270.out))
                 have Dt_30_needless_4l0_p270 : Hid (Apart At_30_p270 _) := Lib.hid (Go.Proofs.Ytdbgmcgjklmkkaa.GoK.apart_from Dt_26_needless_4l0_p269.out (fun a_ ha_ => (own_lt Oneedless_4l0_p268_p269.out a_ ha_).2) yt_30_p270.out)
                 have Dt_30_t_0_p270 : Hid (Apart At_30_p270 _) := Lib.hid (Go.Proofs.Ytdbgmcgjklmkkaa.GoK.apart_from Dt_26_t_0_p269.out (fun a_ ha_ => by cases ha_; exact cell_lt kt_0_0__266_p268_p269) yt_30_p270.out)
                 have Dt_30_without_32_p270 : Hid (Apart At_30_p270 _) := Lib.hid (Go.Proofs.Ytdbgmcgjklmkkaa.GoK.apart_from Dt_26_without_32_p269.out (fun a_ ha_ => by cases ha_; exact cell_lt kwithout_32_0_p268_p269) yt_30_p270.out)
                 have kt_0_0__266_p268_p269_p270 := cell_other kt_0_0__266_p268_p269 Gt_30_p270.out Dt_26_t_0_p269.out
                 have kt_0_1__267_p268_p269_p270 := cell_other kt_0_1__267_p268_p269 Gt_30_p270.out Dt_26_t_0_p269.out
                 have kwithout_32_0_p268_p269_p270 := cell_other kwithout_32_0_p268_p269 Gt_30_p270.out Dt_26_without_32_p269.out
                 have kwithout_32_1_p268_p269_p270 := cell_other kwithout_32_1_p268_p269 Gt_30_p270.out Dt_26_without_32_p269.out
                 have Owithout_32_p268_p269_p270 := Lib.hid (own_other Owithout_32_p268_p269.out Gt_30_p270.out Dt_26_without_32_p269.out)
                 have Ot_12_p268_p269_p270 := Lib.hid (Go.Proofs.Ytdbgmcgjklmkkaa.GoN.nest_other Ot_12_p268_p269.out Gt_30_p270.out Dt_26_t_12_p269.out)
                 have Oneedless_4l0_p268_p269_p270 := Lib.hid (own_other Oneedless_4l0_p268_p269.out Gt_30_p270.out Dt_26_needless_4l0_p269.out)
                 clear qt_30
                 obtain ⟨wb33_33_p275, hwb33_33_p275⟩ : ∃ x, ((wt_30_p270).setCell ⟨wr0.heap.size, 0, none⟩ (.slice A0_0 t_sizes.length c0_0)).setCell ⟨wr0.heap.size, 1, none⟩ (.slice At_30_p270 t_30.length ct_30_p270) = x := ⟨_, rfl⟩
                 have z0b33_33_p275 := Owithout_32_p268_p269_p270.out.frozenAt 0
                 have z1b33_33_p275 := Owithout_32_p268_p269_p270.out.frozenAt 1
                 have Sb33_33_p275 := Lib.hid (own_stores [(0, .slice A0_0 t_sizes.length c0_0), (1, .slice At_30_p270 t_30.length ct_30_p270)] Owithout_32_p268_p269_p270.out)
                 have Pb33_33_p275 : Hid (wb33_33_p275.ownsRow w.heap.size 31 2 (.slice (some ⟨wr0.heap.size, 0, none⟩) 1 1) 1 [.slice A0_0 t_sizes.length c0_0, .slice At_30_p270 t_30.length ct_30_p270]) := Lib.hid (by rw [← hwb33_33_p275]; exact Sb33_33_p275.out.1)
                 have Gb33_33_p275 : Hid (wt_30_p270.grownBy wb33_33_p275 (Value.slice (some ⟨wr0.heap.size, 0, none⟩) 1 1).ownBlock) := Lib.hid (by rw [← hwb33_33_p275]; exact Sb33_33_p275.out.2)
                 have HBwb33_33_p275 := Lib.hid (HBwt_30_p270.out.grown Gb33_33_p275.out HBwt_30_p270.out.size (fun q hq => (Owithout_32_p268_p269_p270.out.lt q hq).1))
                 have kt_0_0__271_p275 := cell_other kt_0_0__266_p268_p269_p270 Gb33_33_p275.out Dwithout_32_t_0_p268.out
                 have kt_0_1__272_p275 := cell_other kt_0_1__267_p268_p269_p270 Gb33_33_p275.out Dwithout_32_t_0_p268.out
                 have Ot_12_p268_p269_p270_p275 := Lib.hid (Go.Proofs.Ytdbgmcgjklmkkaa.GoN.nest_other Ot_12_p268_p269_p270.out Gb33_33_p275.out Dwithout_32_t_12_p268.out)
                 have Oneedless_4l0_p268_p269_p270_p275 := Lib.hid (own_other Oneedless_4l0_p268_p269_p270.out Gb33_33_p275.out Dwithout_32_needless_4l0_p268.out)
                 have Pt_30_p270_p275 := Lib.hid (own_other Pt_30_p270.out Gb33_33_p275.out (Apart.symm Dt_30_without_32_p270.out))
                 have kwithout_32_0_p268_p269_p270__273_p275 : wb33_33_p275.cell? ⟨wr0.heap.size, 0, none⟩ = some (.slice A0_0 t_sizes.length c0_0) := Pb33_33_p275.out.cells rfl 0 _ rfl
                 have kwithout_32_1_p268_p269_p270__274_p275 : wb33_33_p275.cell? ⟨wr0.heap.size, 1, none⟩ = some (.slice At_30_p270 t_30.length ct_30_p270) := Pb33_33_p275.out.cells rfl 1 _ rfl))
        · skip
          replace H := bind_hid H
          obtain ⟨t_35, qt_35, H⟩ := H
          go_wp2_with fail
          go_at_call 73
          refine (Go.Proofs.Ytdbgmcgjklmkkaa.GiCompatibleKinds.C fuel (t_sizes) (t_30) A0_0 c0_0 At_30_p248 ct_30_p248 _   (Lib.hid (Cells.below M0_0.out HBwb33_33_p256.out)) N0_0 Q0_0 (Lib.hid (own_cells Pt_30_p248_p251_p256.out)) (Lib.hid (own_max Pt_30_p248_p251_p256.out)) (Lib.hid (own_room Pt_30_p248_p251_p256.out)) qt_35).mono ?_
          rintro e_t_35 wt_35 ⟨At_35, ct_35, rfl, ⟨Bt_35, ot_35⟩, bt_35⟩
          have Dt_35_t_12 := Lib.hid (Go.Proofs.Ytdbgmcgjklmkkaa.GoN.nest_callnest ot_35 Ot_12_p247_p248_p251_p256.out)
          have Dt_35_needless_4l0 := Lib.hid (Go.Proofs.Ytdbgmcgjklmkkaa.GoN.nest_callrow ot_35 Oneedless_4l0_p247_p248_p251_p256.out)
          have Dt_35_t_30 := Lib.hid (Go.Proofs.Ytdbgmcgjklmkkaa.GoN.nest_callrow ot_35 Pt_30_p248_p251_p256.out)
          have Dt_35_t_0 := Lib.hid (Go.Proofs.Ytdbgmcgjklmkkaa.GoN.nest_callbox ot_35 kt_0_0__252_p256)
          have Dt_35_without_32 := Lib.hid (Go.Proofs.Ytdbgmcgjklmkkaa.GoN.nest_callbox ot_35 kwithout_32_0_p251__254_p256)
          have Ot_35 := Lib.hid (Go.Proofs.Ytdbgmcgjklmkkaa.GoN.nest_lower ot_35 HBwb33_33_p256.out.size)
          clear ot_35
          have HBwt_35 := Lib.hid (Below.step HBwb33_33_p256.out bt_35)
          replace kt_0_0__252_p256 := cell_below bt_35 kt_0_0__252_p256
          replace kt_0_1__253_p256 := cell_below bt_35 kt_0_1__253_p256
          replace kwithout_32_0_p251__254_p256 := cell_below bt_35 kwithout_32_0_p251__254_p256
          replace kwithout_32_1_p251__255_p256 := cell_below bt_35 kwithout_32_1_p251__255_p256
          replace Ot_12_p247_p248_p251_p256 := Lib.hid (Go.Proofs.Ytdbgmcgjklmkkaa.GoN.nest_below Ot_12_p247_p248_p251_p256.out bt_35)
          replace Oneedless_4l0_p247_p248_p251_p256 := Lib.hid (own_below Oneedless_4l0_p247_p248_p251_p256.out bt_35)
          replace Pt_30_p248_p251_p256 := Lib.hid (own_below Pt_30_p248_p251_p256.out bt_35)
          replace Pb33_33_p256 := Lib.hid (own_below Pb33_33_p256.out bt_35)
          clear bt_35
          replace H := let_hid H
          obtain ⟨t_38, ht_38, H⟩ := H
          cases t_38 with
          | false =>
            have nht_38 : ¬ (t_35.length = t_12.length) := by have := ne_of_beq_false ht_38; omega
            replace H := ite_f H
            replace H := app_hid H
            go_wp2_with fail
            have hnx0_ : t_29 ≤ (k0 : Int) + 1 ∧ (k0 : Int) + 1 ≤ t_29 := by rw [← ht_29, IntWalk.i64_in _ (by omega)]; omega
            go_roundg m0
            case measure => omega
            case rel => exact ⟨k0 + 1, _, _, _, by omega, by go_num, rfl, H, HBwt_35, kt_0_0__252_p256, kt_0_1__253_p256, Oneedless_4l0_p247_p248_p251_p256, Ot_12_p247_p248_p251_p256, Lib.hid Dneedless_4l0_t_12.out, Lib.hid Dneedless_4l0_t_0.out⟩
          | true =>
            have Hht_38 : Hid (t_35.length = t_12.length) := Lib.hid (by have := eq_of_beq ht_38; omega)
            have nht_38 : (t_35.length == t_12.length) = true := beq_iff_eq.2 Hht_38.out
            replace H := ite_t H
            obtain ⟨w_t_41, hw_t_41⟩ : ∃ x, wt_35.alloc (.cells #[.int .i64 (k0 : Int)] 3) = x := ⟨_, rfl⟩
            have bw_t_41 : Below wt_35.heap.size wt_35 w_t_41 := by rw [← hw_t_41]; exact (Below.refl _ _).alloc (Nat.le_refl _) _
            have HBw_t_41 := Lib.hid (Below.step HBwt_35.out bw_t_41)
            have kt_0_0__276 := cell_below bw_t_41 kt_0_0__252_p256
            have kt_0_1__277 := cell_below bw_t_41 kt_0_1__253_p256
            have kwithout_32_0_p251__278 := cell_below bw_t_41 kwithout_32_0_p251__254_p256
            have kwithout_32_1_p251__279 := cell_below bw_t_41 kwithout_32_1_p251__255_p256
            replace Ot_12_p247_p248_p251_p256 := Lib.hid (Go.Proofs.Ytdbgmcgjklmkkaa.GoN.nest_below Ot_12_p247_p248_p251_p256.out bw_t_41)
            replace Oneedless_4l0_p247_p248_p251_p256 := Lib.hid (own_below Oneedless_4l0_p247_p248_p251_p256.out bw_t_41)
            replace Pt_30_p248_p251_p256 := Lib.hid (own_below Pt_30_p248_p251_p256.out bw_t_41)
            replace Ot_35 := Lib.hid (Go.Proofs.Ytdbgmcgjklmkkaa.GoN.nest_below Ot_35.out bw_t_41)
            replace Pb33_33_p256 := Lib.hid (own_below Pb33_33_p256.out bw_t_41)
            clear bw_t_41
            replace H := guard_hid H
            obtain ⟨hlt_42, H⟩ := H
            replace H := let_hid H
            obtain ⟨t_42, ht_42, H⟩ := H
            have hht_42 := Lib.hid ht_42
            clear ht_42
            have hst_42 := HBw_t_41.out.size
            go_wp2_with (at_builtin; refine wpList_append_own_at _ rfl _ _ 22 rfl w.heap.size 3 i0_3 (.int .i64 0) 1 8 Try.underlying22 hi_3 hz0_3 hz1_3 hz2_3 rfl (by decide) _ _ _ rfl Oneedless_4l0_p247_p248_p251_p256.out ⟨wt_35.heap.size, 0, none⟩ 1 1 [.int .i64 (k0 : Int)] rfl rfl (news_new hw_t_41) (one_cells rfl) (by unfold maxLen; omega) (by omega) hst_42 ?_; intro vt_42 wt_42 ot_42 gt_42 zt_42 yt_42; clear zt_42; obtain ⟨qt_42, ct_42, rfl, pt_42⟩ := own_push hht_42.out (Go.Proofs.Ytdbgmcgjklmkkaa.HelpInt.iv_snoc _ _) rfl ot_42; have Pt_42 := Lib.hid pt_42; have Yt_42 := Lib.hid yt_42; have Gt_42 := Lib.hid gt_42; clear ot_42 gt_42 pt_42 yt_42; refine stop_in ?_)
            refine stop_out ?_
            have HBwt_42 := Lib.hid (HBw_t_41.out.grown Gt_42.out hst_42 (fun q hq => (Oneedless_4l0_p247_p248_p251_p256.out.lt q hq).1))
            clear hst_42
            have Dt_42_t_12 : Hid (∀ y_ ∈ Bt_12, Apart (some ⟨qt_42, 0, none⟩) y_) := Lib.hid (fun y_ hy_ => (apart_app (Dneedless_4l0_t_12.out y_ hy_) (fun a_ ha_ => (Go.Proofs.Ytdbgmcgjklmkkaa.GoN.nest_lt Ot_12_p247_p248_p251_p256.out y_ hy_ a_ ha_).2) Yt_42.out))
            have Dt_42_t_0 : Hid (Apart (some ⟨qt_42, 0, none⟩) _) := Lib.hid (apart_app Dneedless_4l0_t_0.out (fun a_ ha_ => by cases ha_; exact cell_lt kt_0_0__276) Yt_42.out)
            have Dt_42_t_30 : Hid (Apart (some ⟨qt_42, 0, none⟩) _) := Lib.hid (apart_app (Apart.symm Dt_30_needless_4l0_p248.out) (fun a_ ha_ => (own_lt Pt_30_p248_p251_p256.out a_ ha_).2) Yt_42.out)
            have Dt_42_without_32 : Hid (Apart (some ⟨qt_42, 0, none⟩) _) := Lib.hid (apart_app (Apart.symm Dwithout_32_needless_4l0_p251.out) (fun a_ ha_ => by cases ha_; exact cell_lt kwithout_32_0_p251__278) Yt_42.out)
            have Dt_42_t_35 : Hid (∀ y_ ∈ Bt_35, Apart (some ⟨qt_42, 0, none⟩) y_) := Lib.hid (fun y_ hy_ => (apart_app (Dt_35_needless_4l0.out y_ hy_) (fun a_ ha_ => (Go.Proofs.Ytdbgmcgjklmkkaa.GoN.nest_lt Ot_35.out y_ hy_ a_ ha_).2) Yt_42.out))
            replace kt_0_0__276 := cell_other kt_0_0__276 Gt_42.out Dneedless_4l0_t_0.out
            replace kt_0_1__277 := cell_other kt_0_1__277 Gt_42.out Dneedless_4l0_t_0.out
            replace kwithout_32_0_p251__278 := cell_other kwithout_32_0_p251__278 Gt_42.out (Apart.symm Dwithout_32_needless_4l0_p251.out)
            replace kwithout_32_1_p251__279 := cell_other kwithout_32_1_p251__279 Gt_42.out (Apart.symm Dwithout_32_needless_4l0_p251.out)
            replace Pb33_33_p256 := Lib.hid (own_other Pb33_33_p256.out Gt_42.out (Apart.symm Dwithout_32_needless_4l0_p251.out))
            replace Ot_12_p247_p248_p251_p256 := Lib.hid (Go.Proofs.Ytdbgmcgjklmkkaa.GoN.nest_other Ot_12_p247_p248_p251_p256.out Gt_42.out Dneedless_4l0_t_12.out)
            replace Pt_30_p248_p251_p256 := Lib.hid (own_other Pt_30_p248_p251_p256.out Gt_42.out (Apart.symm Dt_30_needless_4l0_p248.out))
            replace Ot_35 := Lib.hid (Go.Proofs.Ytdbgmcgjklmkkaa.GoN.nest_other Ot_35.out Gt_42.out Dt_35_needless_4l0.out)
            clear kt_0_0__252_p256 kt_0_1__253_p256 kwithout_32_0_p251__254_p256 kwithout_32_1_p251__255_p256
            clear Oneedless_4l0_p247_p248_p251_p256 Yt_42 Gt_42
            replace H := app_hid H
            go_wp2_with fail
            have hnx0_ : t_29 ≤ (k0 : Int) + 1 ∧ (k0 : Int) + 1 ≤ t_29 := by rw [← ht_29, IntWalk.i64_in _ (by omega)]; omega
            go_roundg m0
            case measure => omega
            case rel => exact ⟨k0 + 1, _, _, _, by omega, by go_num, rfl, H, HBwt_42, kt_0_0__276, kt_0_1__277, Pt_42, Ot_12_p247_p248_p251_p256, Lib.hid Dt_42_t_12.out, Lib.hid Dt_42_t_0.out⟩
        · skip
          replace H := bind_hid H
          obtain ⟨t_35, qt_35, H⟩ := H
          go_wp2_with fail
          go_at_call 73
          refine (Go.Proofs.Ytdbgmcgjklmkkaa.GiCompatibleKinds.C fuel (t_sizes) (t_30) A0_0 c0_0 At_30_p260 ct_30_p260 _   (Lib.hid (Cells.below M0_0.out HBwb33_33_p265.out)) N0_0 Q0_0 (Lib.hid (own_cells Pt_30_p260_p265.out)) (Lib.hid (own_max Pt_30_p260_p265.out)) (Lib.hid (own_room Pt_30_p260_p265.out)) qt_35).mono ?_
          rintro e_t_35 wt_35 ⟨At_35, ct_35, rfl, ⟨Bt_35, ot_35⟩, bt_35⟩
          have Dt_35_t_12 := Lib.hid (Go.Proofs.Ytdbgmcgjklmkkaa.GoN.nest_callnest ot_35 Ot_12_p247_p259_p260_p265.out)
          have Dt_35_needless_4l0 := Lib.hid (Go.Proofs.Ytdbgmcgjklmkkaa.GoN.nest_callrow ot_35 Oneedless_4l0_p247_p259_p260_p265.out)
          have Dt_35_t_30 := Lib.hid (Go.Proofs.Ytdbgmcgjklmkkaa.GoN.nest_callrow ot_35 Pt_30_p260_p265.out)
          have Dt_35_t_0 := Lib.hid (Go.Proofs.Ytdbgmcgjklmkkaa.GoN.nest_callbox ot_35 kt_0_0__261_p265)
          have Dt_35_without_32 := Lib.hid (Go.Proofs.Ytdbgmcgjklmkkaa.GoN.nest_callbox ot_35 kwithout_32_0_p259_p260__263_p265)
          have Ot_35 := Lib.hid (Go.Proofs.Ytdbgmcgjklmkkaa.GoN.nest_lower ot_35 HBwb33_33_p265.out.size)
          clear ot_35
          have HBwt_35 := Lib.hid (Below.step HBwb33_33_p265.out bt_35)
          replace kt_0_0__261_p265 := cell_below bt_35 kt_0_0__261_p265
          replace kt_0_1__262_p265 := cell_below bt_35 kt_0_1__262_p265
          replace kwithout_32_0_p259_p260__263_p265 := cell_below bt_35 kwithout_32_0_p259_p260__263_p265
          replace kwithout_32_1_p259_p260__264_p265 := cell_below bt_35 kwithout_32_1_p259_p260__264_p265
          replace Ot_12_p247_p259_p260_p265 := Lib.hid (Go.Proofs.Ytdbgmcgjklmkkaa.GoN.nest_below Ot_12_p247_p259_p260_p265.out bt_35)
          replace Oneedless_4l0_p247_p259_p260_p265 := Lib.hid (own_below Oneedless_4l0_p247_p259_p260_p265.out bt_35)
          replace Pt_30_p260_p265 := Lib.hid (own_below Pt_30_p260_p265.out bt_35)
          replace Pb33_33_p265 := Lib.hid (own_below Pb33_33_p265.out bt_35)
          clear bt_35
          replace H := let_hid H
          obtain ⟨t_38, ht_38, H⟩ := H
          cases t_38 with
          | false =>
            have nht_38 : ¬ (t_35.length = t_12.length) := by have := ne_of_beq_false ht_38; omega
            replace H := ite_f H
            replace H := app_hid H
            go_wp2_with fail
            have hnx0_ : t_29 ≤ (k0 : Int) + 1 ∧ (k0 : Int) + 1 ≤ t_29 := by rw [← ht_29, IntWalk.i64_in _ (by omega)]; omega
            go_roundg m0
            case measure => omega
            case rel => exact ⟨k0 + 1, _, _, _, by omega, by go_num, rfl, H, HBwt_35, kt_0_0__261_p265, kt_0_1__262_p265, Oneedless_4l0_p247_p259_p260_p265, Ot_12_p247_p259_p260_p265, Lib.hid Dneedless_4l0_t_12.out, Lib.hid Dneedless_4l0_t_0.out⟩
          | true =>
            have Hht_38 : Hid (t_35.length = t_12.length) := Lib.hid (by have := eq_of_beq ht_38; omega)
            have nht_38 : (t_35.length == t_12.length) = true := beq_iff_eq.2 Hht_38.out
            replace H := ite_t H
            obtain ⟨w_t_41, hw_t_41⟩ : ∃ x, wt_35.alloc (.cells #[.int .i64 (k0 : Int)] 3) = x := ⟨_, rfl⟩
            have bw_t_41 : Below wt_35.heap.size wt_35 w_t_41 := by rw [← hw_t_41]; exact (Below.refl _ _).alloc (Nat.le_refl _) _
            have HBw_t_41 := Lib.hid (Below.step HBwt_35.out bw_t_41)
            have kt_0_0__280 := cell_below bw_t_41 kt_0_0__261_p265
            have kt_0_1__281 := cell_below bw_t_41 kt_0_1__262_p265
            have kwithout_32_0_p259_p260__282 := cell_below bw_t_41 kwithout_32_0_p259_p260__263_p265
            have kwithout_32_1_p259_p260__283 := cell_below bw_t_41 kwithout_32_1_p259_p260__264_p265
            replace Ot_12_p247_p259_p260_p265 := Lib.hid (Go.Proofs.Ytdbgmcgjklmkkaa.GoN.nest_below Ot_12_p247_p259_p260_p265.out bw_t_41)
            replace Oneedless_4l0_p247_p259_p260_p265 := Lib.hid (own_below Oneedless_4l0_p247_p259_p260_p265.out bw_t_41)
            replace Pt_30_p260_p265 := Lib.hid (own_below Pt_30_p260_p265.out bw_t_41)
            replace Ot_35 := Lib.hid (Go.Proofs.Ytdbgmcgjklmkkaa.GoN.nest_below Ot_35.out bw_t_41)
            replace Pb33_33_p265 := Lib.hid (own_below Pb33_33_p265.out bw_t_41)
            clear bw_t_41
            replace H := guard_hid H
            obtain ⟨hlt_42, H⟩ := H
            replace H := let_hid H
            obtain ⟨t_42, ht_42, H⟩ := H
            have hht_42 := Lib.hid ht_42
            clear ht_42
            have hst_42 := HBw_t_41.out.size
            go_wp2_with (at_builtin; refine wpList_append_own_at _ rfl _ _ 22 rfl w.heap.size 3 i0_3 (.int .i64 0) 1 8 Try.underlying22 hi_3 hz0_3 hz1_3 hz2_3 rfl (by decide) _ _ _ rfl Oneedless_4l0_p247_p259_p260_p265.out ⟨wt_35.heap.size, 0, none⟩ 1 1 [.int .i64 (k0 : Int)] rfl rfl (news_new hw_t_41) (one_cells rfl) (by unfold maxLen; omega) (by omega) hst_42 ?_; intro vt_42 wt_42 ot_42 gt_42 zt_42 yt_42; clear zt_42; obtain ⟨qt_42, ct_42, rfl, pt_42⟩ := own_push hht_42.out (Go.Proofs.Ytdbgmcgjklmkkaa.HelpInt.iv_snoc _ _) rfl ot_42; have Pt_42 := Lib.hid pt_42; have Yt_42 := Lib.hid yt_42; have Gt_42 := Lib.hid gt_42; clear ot_42 gt_42 pt_42 yt_42; refine stop_in ?_)
            refine stop_out ?_
            have HBwt_42 := Lib.hid (HBw_t_41.out.grown Gt_42.out hst_42 (fun q hq => (Oneedless_4l0_p247_p259_p260_p265.out.lt q hq).1))
            clear hst_42
            have Dt_42_t_12 : Hid (∀ y_ ∈ Bt_12, Apart (some ⟨qt_42, 0, none⟩) y_) := Lib.hid (fun y_ hy_ => (apart_app (Dneedless_4l0_t_12.out y_ hy_) (fun a_ ha_ => (Go.Proofs.Ytdbgmcgjklmkkaa.GoN.nest_lt Ot_12_p247_p259_p260_p265.out y_ hy_ a_ ha_).2) Yt_42.out))
            have Dt_42_t_0 : Hid (Apart (some ⟨qt_42, 0, none⟩) _) := Lib.hid (apart_app Dneedless_4l0_t_0.out (fun a_ ha_ => by cases ha_; exact cell_lt kt_0_0__280) Yt_42.out)
            have Dt_42_without_32 : Hid (Apart (some ⟨qt_42, 0, none⟩) _) := Lib.hid (apart_app (Apart.symm Dwithout_32_needless_4l0_p259.out) (fun a_ ha_ => by cases ha_; exact cell_lt kwithout_32_0_p259_p260__282) Yt_42.out)
            have Dt_42_t_30 : Hid (Apart (some ⟨qt_42, 0, none⟩) _) := Lib.hid (apart_app (Apart.symm Dt_30_needless_4l0_p260.out) (fun a_ ha_ => (own_lt Pt_30_p260_p265.out a_ ha_).2) Yt_42.out)
            have Dt_42_t_35 : Hid (∀ y_ ∈ Bt_35, Apart (some ⟨qt_42, 0, none⟩) y_) := Lib.hid (fun y_ hy_ => (apart_app (Dt_35_needless_4l0.out y_ hy_) (fun a_ ha_ => (Go.Proofs.Ytdbgmcgjklmkkaa.GoN.nest_lt Ot_35.out y_ hy_ a_ ha_).2) Yt_42.out))
            replace kt_0_0__280 := cell_other kt_0_0__280 Gt_42.out Dneedless_4l0_t_0.out
            replace kt_0_1__281 := cell_other kt_0_1__281 Gt_42.out Dneedless_4l0_t_0.out
            replace kwithout_32_0_p259_p260__282 := cell_other kwithout_32_0_p259_p260__282 Gt_42.out (Apart.symm Dwithout_32_needless_4l0_p259.out)
            replace kwithout_32_1_p259_p260__283 := cell_other kwithout_32_1_p259_p260__283 Gt_42.out (Apart.symm Dwithout_32_needless_4l0_p259.out)
            replace Pb33_33_p265 := Lib.hid (own_other Pb33_33_p265.out Gt_42.out (Apart.symm Dwithout_32_needless_4l0_p259.out))
            replace Ot_12_p247_p259_p260_p265 := Lib.hid (Go.Proofs.Ytdbgmcgjklmkkaa.GoN.nest_other Ot_12_p247_p259_p260_p265.out Gt_42.out Dneedless_4l0_t_12.out)
            replace Pt_30_p260_p265 := Lib.hid (own_other Pt_30_p260_p265.out Gt_42.out (Apart.symm Dt_30_needless_4l0_p260.out))
            replace Ot_35 := Lib.hid (Go.Proofs.Ytdbgmcgjklmkkaa.GoN.nest_other Ot_35.out Gt_42.out Dt_35_needless_4l0.out)
            clear kt_0_0__261_p265 kt_0_1__262_p265 kwithout_32_0_p259_p260__263_p265 kwithout_32_1_p259_p260__264_p265
            clear Oneedless_4l0_p247_p259_p260_p265 Yt_42 Gt_42
            replace H := app_hid H
            go_wp2_with fail
            have hnx0_ : t_29 ≤ (k0 : Int) + 1 ∧ (k0 : Int) + 1 ≤ t_29 := by rw [← ht_29, IntWalk.i64_in _ (by omega)]; omega
            go_roundg m0
            case measure => omega
            case rel => exact ⟨k0 + 1, _, _, _, by omega, by go_num, rfl, H, HBwt_42, kt_0_0__280, kt_0_1__281, Pt_42, Ot_12_p247_p259_p260_p265, Lib.hid Dt_42_t_12.out, Lib.hid Dt_42_t_0.out⟩
        · skip
          replace H := bind_hid H
          obtain ⟨t_35, qt_35, H⟩ := H
          go_wp2_with fail
          go_at_call 73
          refine (Go.Proofs.Ytdbgmcgjklmkkaa.GiCompatibleKinds.C fuel (t_sizes) (t_30) A0_0 c0_0 At_30_p270 ct_30_p270 _   (Lib.hid (Cells.below M0_0.out HBwb33_33_p275.out)) N0_0 Q0_0 (Lib.hid (own_cells Pt_30_p270_p275.out)) (Lib.hid (own_max Pt_30_p270_p275.out)) (Lib.hid (own_room Pt_30_p270_p275.out)) qt_35).mono ?_
          rintro e_t_35 wt_35 ⟨At_35, ct_35, rfl, ⟨Bt_35, ot_35⟩, bt_35⟩
          have Dt_35_t_12 := Lib.hid (Go.Proofs.Ytdbgmcgjklmkkaa.GoN.nest_callnest ot_35 Ot_12_p268_p269_p270_p275.out)
          have Dt_35_needless_4l0 := Lib.hid (Go.Proofs.Ytdbgmcgjklmkkaa.GoN.nest_callrow ot_35 Oneedless_4l0_p268_p269_p270_p275.out)
          have Dt_35_t_30 := Lib.hid (Go.Proofs.Ytdbgmcgjklmkkaa.GoN.nest_callrow ot_35 Pt_30_p270_p275.out)
          have Dt_35_t_0 := Lib.hid (Go.Proofs.Ytdbgmcgjklmkkaa.GoN.nest_callbox ot_35 kt_0_0__271_p275)
          have Dt_35_without_32 := Lib.hid (Go.Proofs.Ytdbgmcgjklmkkaa.GoN.nest_callbox ot_35 kwithout_32_0_p268_p269_p270__273_p275)
          have Ot_35 := Lib.hid (Go.Proofs.Ytdbgmcgjklmkkaa.GoN.nest_lower ot_35 HBwb33_33_p275.out.size)
          clear ot_35
          have HBwt_35 := Lib.hid (Below.step HBwb33_33_p275.out bt_35)
          replace kt_0_0__271_p275 := cell_below bt_35 kt_0_0__271_p275
          replace kt_0_1__272_p275 := cell_below bt_35 kt_0_1__272_p275
          replace kwithout_32_0_p268_p269_p270__273_p275 := cell_below bt_35 kwithout_32_0_p268_p269_p270__273_p275
          replace kwithout_32_1_p268_p269_p270__274_p275 := cell_below bt_35 kwithout_32_1_p268_p269_p270__274_p275
          replace Ot_12_p268_p269_p270_p275 := Lib.hid (Go.Proofs.Ytdbgmcgjklmkkaa.GoN.nest_below Ot_12_p268_p269_p270_p275.out bt_35)
          replace Oneedless_4l0_p268_p269_p270_p275 := Lib.hid (own_below Oneedless_4l0_p268_p269_p270_p275.out bt_35)
          replace Pt_30_p270_p275 := Lib.hid (own_below Pt_30_p270_p275.out bt_35)
          replace Pb33_33_p275 := Lib.hid (own_below Pb33_33_p275.out bt_35)
          clear bt_35
          replace H := let_hid H
          obtain ⟨t_38, ht_38, H⟩ := H
          cases t_38 with
          | false =>
            have nht_38 : ¬ (t_35.length = t_12.length) := by have := ne_of_beq_false ht_38; omega
            replace H := ite_f H
            replace H := app_hid H
            go_wp2_with fail
            have hnx0_ : t_29 ≤ (k0 : Int) + 1 ∧ (k0 : Int) + 1 ≤ t_29 := by rw [← ht_29, IntWalk.i64_in _ (by omega)]; omega
            go_roundg m0
            case measure => omega
            case rel => exact ⟨k0 + 1, _, _, _, by omega, by go_num, rfl, H, HBwt_35, kt_0_0__271_p275, kt_0_1__272_p275, Oneedless_4l0_p268_p269_p270_p275, Ot_12_p268_p269_p270_p275, Lib.hid Dneedless_4l0_t_12.out, Lib.hid Dneedless_4l0_t_0.out⟩
          | true =>
            have Hht_38 : Hid (t_35.length = t_12.length) := Lib.hid (by have := eq_of_beq ht_38; omega)
            have nht_38 : (t_35.length == t_12.length) = true := beq_iff_eq.2 Hht_38.out
            replace H := ite_t H
            obtain ⟨w_t_41, hw_t_41⟩ : ∃ x, wt_35.alloc (.cells #[.int .i64 (k0 : Int)] 3) = x := ⟨_, rfl⟩
            have bw_t_41 : Below wt_35.heap.size wt_35 w_t_41 := by rw [← hw_t_41]; exact (Below.refl _ _).alloc (Nat.le_refl _) _
            have HBw_t_41 := Lib.hid (Below.step HBwt_35.out bw_t_41)
            have kt_0_0__284 := cell_below bw_t_41 kt_0_0__271_p275
            have kt_0_1__285 := cell_below bw_t_41 kt_0_1__272_p275
            have kwithout_32_0_p268_p269_p270__286 := cell_below bw_t_41 kwithout_32_0_p268_p269_p270__273_p275
            have kwithout_32_1_p268_p269_p270__287 := cell_below bw_t_41 kwithout_32_1_p268_p269_p270__274_p275
            replace Ot_12_p268_p269_p270_p275 := Lib.hid (Go.Proofs.Ytdbgmcgjklmkkaa.GoN.nest_below Ot_12_p268_p269_p270_p275.out bw_t_41)
            replace Oneedless_4l0_p268_p269_p270_p275 := Lib.hid (own_below Oneedless_4l0_p268_p269_p270_p275.out bw_t_41)
            replace Pt_30_p270_p275 := Lib.hid (own_below Pt_30_p270_p275.out bw_t_41)
            replace Ot_35 := Lib.hid (Go.Proofs.Ytdbgmcgjklmkkaa.GoN.nest_below Ot_35.out bw_t_41)
            replace Pb33_33_p275 := Lib.hid (own_below Pb33_33_p275.out bw_t_41)
            clear bw_t_41
            replace H := guard_hid H
            obtain ⟨hlt_42, H⟩ := H
            replace H := let_hid H
            obtain ⟨t_42, ht_42, H⟩ := H
            have hht_42 := Lib.hid ht_42
            clear ht_42
            have hst_42 := HBw_t_41.out.size
            go_wp2_with (at_builtin; refine wpList_append_own_at _ rfl _ _ 22 rfl w.heap.size 3 i0_3 (.int .i64 0) 1 8 Try.underlying22 hi_3 hz0_3 hz1_3 hz2_3 rfl (by decide) _ _ _ rfl Oneedless_4l0_p268_p269_p270_p275.out ⟨wt_35.heap.size, 0, none⟩ 1 1 [.int .i64 (k0 : Int)] rfl rfl (news_new hw_t_41) (one_cells rfl) (by unfold maxLen; omega) (by omega) hst_42 ?_; intro vt_42 wt_42 ot_42 gt_42 zt_42 yt_42; clear zt_42; obtain ⟨qt_42, ct_42, rfl, pt_42⟩ := own_push hht_42.out (Go.Proofs.Ytdbgmcgjklmkkaa.HelpInt.iv_snoc _ _) rfl ot_42; have Pt_42 := Lib.hid pt_42; have Yt_42 := Lib.hid yt_42; have Gt_42 := Lib.hid gt_42; clear ot_42 gt_42 pt_42 yt_42; refine stop_in ?_)
            refine stop_out ?_
            have HBwt_42 := Lib.hid (HBw_t_41.out.grown Gt_42.out hst_42 (fun q hq => (Oneedless_4l0_p268_p269_p270_p275.out.lt q hq).1))
            clear hst_42
            have Dt_42_t_12 : Hid (∀ y_ ∈ Bt_12, Apart (some ⟨qt_42, 0, none⟩) y_) := Lib.hid (fun y_ hy_ => (apart_app (Dneedless_4l0_t_12.out y_ hy_) (fun a_ ha_ => (Go.Proofs.Ytdbgmcgjklmkkaa.GoN.nest_lt Ot_12_p268_p269_p270_p275.out y_ hy_ a_ ha_).2) Yt_42.out))
            have Dt_42_t_0 : Hid (Apart (some ⟨qt_42, 0, none⟩) _) := Lib.hid (apart_app Dneedless_4l0_t_0.out (fun a_ ha_ => by cases ha_; exact cell_lt kt_0_0__284) Yt_42.out)
            have Dt_42_without_32 : Hid (Apart (some ⟨qt_42, 0, none⟩) _) := Lib.hid (apart_app (Apart.symm Dwithout_32_needless_4l0_p268.out) (fun a_ ha_ => by cases ha_; exact cell_lt kwithout_32_0_p268_p269_p270__286) Yt_42.out)
            have Dt_42_t_30 : Hid (Apart (some ⟨qt_42, 0, none⟩) _) := Lib.hid (apart_app (Apart.symm Dt_30_needless_4l0_p270.out) (fun a_ ha_ => (own_lt Pt_30_p270_p275.out a_ ha_).2) Yt_42.out)
            have Dt_42_t_35 : Hid (∀ y_ ∈ Bt_35, Apart (some ⟨qt_42, 0, none⟩) y_) := Lib.hid (fun y_ hy_ => (apart_app (Dt_35_needless_4l0.out y_ hy_) (fun a_ ha_ => (Go.Proofs.Ytdbgmcgjklmkkaa.GoN.nest_lt Ot_35.out y_ hy_ a_ ha_).2) Yt_42.out))
            replace kt_0_0__284 := cell_other kt_0_0__284 Gt_42.out Dneedless_4l0_t_0.out
            replace kt_0_1__285 := cell_other kt_0_1__285 Gt_42.out Dneedless_4l0_t_0.out
            replace kwithout_32_0_p268_p269_p270__286 := cell_other kwithout_32_0_p268_p269_p270__286 Gt_42.out (Apart.symm Dwithout_32_needless_4l0_p268.out)
            replace kwithout_32_1_p268_p269_p270__287 := cell_other kwithout_32_1_p268_p269_p270__287 Gt_42.out (Apart.symm Dwithout_32_needless_4l0_p268.out)
            replace Pb33_33_p275 := Lib.hid (own_other Pb33_33_p275.out Gt_42.out (Apart.symm Dwithout_32_needless_4l0_p268.out))
            replace Ot_12_p268_p269_p270_p275 := Lib.hid (Go.Proofs.Ytdbgmcgjklmkkaa.GoN.nest_other Ot_12_p268_p269_p270_p275.out Gt_42.out Dneedless_4l0_t_12.out)
            replace Pt_30_p270_p275 := Lib.hid (own_other Pt_30_p270_p275.out Gt_42.out (Apart.symm Dt_30_needless_4l0_p270.out))
            replace Ot_35 := Lib.hid (Go.Proofs.Ytdbgmcgjklmkkaa.GoN.nest_other Ot_35.out Gt_42.out Dt_35_needless_4l0.out)
            clear kt_0_0__271_p275 kt_0_1__272_p275 kwithout_32_0_p268_p269_p270__273_p275 kwithout_32_1_p268_p269_p270__274_p275
            clear Oneedless_4l0_p268_p269_p270_p275 Yt_42 Gt_42
            replace H := app_hid H
            go_wp2_with fail
            have hnx0_ : t_29 ≤ (k0 : Int) + 1 ∧ (k0 : Int) + 1 ≤ t_29 := by rw [← ht_29, IntWalk.i64_in _ (by omega)]; omega
            go_roundg m0
            case measure => omega
            case rel => exact ⟨k0 + 1, _, _, _, by omega, by go_num, rfl, H, HBwt_42, kt_0_0__284, kt_0_1__285, Pt_42, Ot_12_p268_p269_p270_p275, Lib.hid Dt_42_t_12.out, Lib.hid Dt_42_t_0.out⟩
end Go.Proofs.Ytdbgmcgjklmkkaa.GiNeedlessBans

/- loop.example/g01062/laws.eqIntS as a plain function, and the contract of the program's: where the plain one has an answer, the program has it. Conditions: slices read as lists. -/
namespace Go.Proofs.Ytdbgmcgjklmkkaa.GlEqIntS
set_option linter.unusedVariables false
set_option linter.unusedSimpArgs false
open Go.RowKit
open Go.Proofs.Ytdbgmcgjklmkkaa.Rowed Go.Proofs.Ytdbgmcgjklmkkaa.Turn Go.Proofs.Ytdbgmcgjklmkkaa.Aid Go.Proofs.Ytdbgmcgjklmkkaa.GoP Go.Proofs.Ytdbgmcgjklmkkaa.GoM

def l0 (a : (List Int)) (b : (List Int)) (k0 : Nat) (s : Unit) (nx0 bk0 : Unit → Option (Bool)) : Option (Bool) :=
  
  Option.bind (idx a (k0 : Int)) fun (yt_14 : Int) =>
  Option.bind (idx b (k0 : Int)) fun (yt_18 : Int) =>
  letK (yt_14 != yt_18) fun (t_20 : Bool) =>
  iteK t_20
  (some false)
  (appK nx0 ())

def e0  (s : Unit) : Option (Bool) :=
  
  some true

def P (a : (List Int)) (b : (List Int)) : Option (Bool) :=
  letK ((a.length : Int) != (b.length : Int)) fun (t_5 : Bool) =>
  iteK t_5
  (some false)
  (cntK (l0 a b) (a.length) 0 () (e0 ))

set_option maxRecDepth 100000 in
set_option maxHeartbeats 2000000 in
theorem C (a : (List Int)) (b : (List Int)) (A0 : Option Addr) (c0 : Nat) (A1 : Option Addr) (c1 : Nat)  (w : World) (M0 : Hid (Cells w 1 A0 a.length (Go.Proofs.Ytdbgmcgjklmkkaa.HelpInt.iv a))) (N0 : Hid (a.length ≤ 9223372036854775807)) (M1 : Hid (Cells w 1 A1 b.length (Go.Proofs.Ytdbgmcgjklmkkaa.HelpInt.iv b))) (N1 : Hid (b.length ≤ 9223372036854775807))  {r : Bool} (H : Hid (P a b = some r)) :
    Calls Try.prog 16 #[.slice A0 a.length c0, .slice A1 b.length c1] w (Gives (.bool r) w) := by
  have HB := Lib.hid (Below.refl w.heap.size w)
  unfold P at H
  have N0o := N0.out
  have N1o := N1.out
  go_enter Try.func16, Try.ntmps16
  replace H := let_hid H
  obtain ⟨t_5, ht_5, H⟩ := H
  cases t_5 with
  | false =>
    have Hht_5 : Hid (a.length = b.length) := Lib.hid (by have := bne_eq_false_iff_eq.1 ht_5; omega)
    have nht_5 : (a.length == b.length) = true := beq_iff_eq.2 Hht_5.out
    replace H := ite_f H
    go_wp2_with fail
    go_loopg [5] (a.length) (fun m_ v5_ wr => ∃ (k0 : Nat) , k0 + m_ = a.length ∧ v5_ = .int .i64 (k0 : Int) ∧ Hid (cntK (l0 a b) m_ k0 () (e0 ) = some r) ∧ Hid (Below w.heap.size w wr))
    case atStart => exact ⟨0, by omega, rfl, H, HB⟩
    case round =>
      obtain ⟨k0, hkm0, rfl, H, HBwr0⟩ := hrel
      rename World => wr0
      cases gk with
      | zero =>
        obtain rfl : k0 = a.length := by omega
        have hc0 : decide (((a.length : Nat) : Int) < ((a.length : Nat) : Int)) = false := by simp
        replace H := cnt_zero H
        unfold e0 at H
        obtain rfl := ret_hid H
        go_wp2_with fail
        go_ret
        exact ⟨rfl, HBwr0.out⟩
      | succ m0 =>
        have hlt0 : k0 < a.length := by omega
        have hc0 : decide ((k0 : Int) < ((a.length : Nat) : Int)) = true := by simp; omega
        replace H := cnt_succ H
        unfold l0 at H
        go_wp2_with fail
        replace H := idx_hid H
        obtain ⟨nt_14, yt_14, et_14, lt_14, gt_14, H⟩ := H
        obtain rfl : k0 = nt_14 := by omega
        clear et_14
        obtain ⟨ab_t_14, ao_t_14, zt_14, At_14, z_t_14, ct_14_0⟩ := Go.Proofs.Ytdbgmcgjklmkkaa.HelpInt.Ints.at_ M0.out lt_14
        obtain rfl := Option.some.inj (gt_14.out.symm.trans z_t_14)
        subst At_14
        have ltt_14 := cell_lt ct_14_0
        replace ct_14_0 := cell_below HBwr0.out ct_14_0
        clear z_t_14
        have b0t_14 : (0 : Int) ≤ (k0 : Int) := by omega
        have b1t_14 : (k0 : Int) < ((a.length : Nat) : Int) := by omega
        have b2t_14 : ((k0 : Int)).toNat = k0 := by omega
        have Hct_14_0 := Lib.hid ct_14_0
        replace ct_14_0 := cell_regrown ct_14_0
        replace H := idx_hid H
        obtain ⟨nt_18, yt_18, et_18, lt_18, gt_18, H⟩ := H
        obtain rfl : k0 = nt_18 := by omega
        clear et_18
        obtain ⟨ab_t_18, ao_t_18, zt_18, At_18, z_t_18, ct_18_0⟩ := Go.Proofs.Ytdbgmcgjklmkkaa.HelpInt.Ints.at_ M1.out lt_18
        obtain rfl := Option.some.inj (gt_18.out.symm.trans z_t_18)
        subst At_18
        have ltt_18 := cell_lt ct_18_0
        replace ct_18_0 := cell_below HBwr0.out ct_18_0
        clear z_t_18
        have b0t_18 : (0 : Int) ≤ (k0 : Int) := by omega
        have b1t_18 : (k0 : Int) < ((b.length : Nat) : Int) := by omega
        have b2t_18 : ((k0 : Int)).toNat = k0 := by omega
        have Hct_18_0 := Lib.hid ct_18_0
        replace ct_18_0 := cell_regrown ct_18_0
        replace H := let_hid H
        obtain ⟨t_20, ht_20, H⟩ := H
        refine wp_region_quiet_below (by kernel_rfl) (by kernel_rfl) ?_
        repeat (go_big_quiet_step (fail))
        refine wpQuiet_nil ?_
        intro Y6 hY6
        replace hY6 := below_class hY6
        replace ct_14_0 := Hct_14_0.out
        clear Hct_14_0
        replace ct_18_0 := Hct_18_0.out
        clear Hct_18_0
        have HBY6 := Lib.hid (Below.step HBwr0.out hY6)
        replace ct_14_0 := cell_below hY6 ct_14_0
        replace ct_18_0 := cell_below hY6 ct_18_0
        clear hY6
        cases t_20 with
        | false =>
          replace H := ite_f H
          replace H := app_hid H
          go_wp2_with fail
          go_roundg m0
          case measure => omega
          case rel => exact ⟨k0 + 1, by omega, by go_num, H, HBY6⟩
        | true =>
          replace H := ite_t H
          obtain rfl := ret_hid H
          go_wp2_with fail
          go_ret
          exact ⟨rfl, HBY6.out⟩
  | true =>
    have nht_5 : ¬ (a.length = b.length) := by have := bne_iff_ne.1 ht_5; omega
    replace H := ite_t H
    obtain rfl := ret_hid H
    go_wp2_with fail
    go_ret
    exact ⟨rfl, HB.out⟩
end Go.Proofs.Ytdbgmcgjklmkkaa.GlEqIntS

/- loop.example/g01062/laws.eqBan as a plain function, and the contract of the program's: where the plain one has an answer, the program has it. Conditions: slices read as lists. -/
namespace Go.Proofs.Ytdbgmcgjklmkkaa.GlEqBan
set_option linter.unusedVariables false
set_option linter.unusedSimpArgs false
open Go.RowKit
open Go.Proofs.Ytdbgmcgjklmkkaa.Rowed Go.Proofs.Ytdbgmcgjklmkkaa.Turn Go.Proofs.Ytdbgmcgjklmkkaa.Aid Go.Proofs.Ytdbgmcgjklmkkaa.GoP Go.Proofs.Ytdbgmcgjklmkkaa.GoM

def P (a : Go.Proofs.Ytdbgmcgjklmkkaa.PBan.Ban) (b : Go.Proofs.Ytdbgmcgjklmkkaa.PBan.Ban) : Option (Bool) :=
  unBan a fun (a_a : Int) (a_x : Int) (a_b : Int) (a_y : Int) =>
  unBan b fun (b_a : Int) (b_x : Int) (b_b : Int) (b_y : Int) =>
  letK (a_a != b_a) fun (t_7 : Bool) =>
  iteK t_7
  (some false)
  (letK (a_x != b_x) fun (t_13 : Bool) =>
  iteK t_13
  (some false)
  (letK (a_b != b_b) fun (t_19 : Bool) =>
  iteK t_19
  (some false)
  (letK (a_y != b_y) fun (t_25 : Bool) =>
  iteK t_25
  (some false)
  (some true))))

set_option maxRecDepth 100000 in
set_option maxHeartbeats 2000000 in
theorem C (a : Go.Proofs.Ytdbgmcgjklmkkaa.PBan.Ban) (b : Go.Proofs.Ytdbgmcgjklmkkaa.PBan.Ban)   (w : World)   {r : Bool} (H : Hid (P a b = some r)) :
    Calls Try.prog 131 #[a.val, b.val] w (Gives (.bool r) w) := by
  have HB := Lib.hid (Below.refl w.heap.size w)
  unfold P at H
  obtain ⟨a_a, a_x, a_b, a_y⟩ := a
  replace H := unBan_hid H
  obtain ⟨b_a, b_x, b_b, b_y⟩ := b
  replace H := unBan_hid H
  unfold Go.Proofs.Ytdbgmcgjklmkkaa.PBan.Ban.val
  go_enter Try.func131, Try.ntmps131
  obtain ⟨w_a_0, hw_a_0⟩ : ∃ x, w.alloc (.cells #[.int .i64 a_a, .int .i64 a_x, .int .i64 a_b, .int .i64 a_y] 96) = x := ⟨_, rfl⟩
  have bw_a_0 : Below w.heap.size w w_a_0 := by rw [← hw_a_0]; exact (Below.refl _ _).alloc (Nat.le_refl _) _
  have HBw_a_0 := Lib.hid (Below.step HB.out bw_a_0)
  clear bw_a_0
  have ka_0_0 : w_a_0.cell? ⟨w.heap.size, 0, none⟩ = some (.int .i64 a_a) := by rw [← hw_a_0]; exact box_new _ _ _ 0 _ rfl
  have ka_0_1 : w_a_0.cell? ⟨w.heap.size, 1, none⟩ = some (.int .i64 a_x) := by rw [← hw_a_0]; exact box_new _ _ _ 1 _ rfl
  have ka_0_2 : w_a_0.cell? ⟨w.heap.size, 2, none⟩ = some (.int .i64 a_b) := by rw [← hw_a_0]; exact box_new _ _ _ 2 _ rfl
  have ka_0_3 : w_a_0.cell? ⟨w.heap.size, 3, none⟩ = some (.int .i64 a_y) := by rw [← hw_a_0]; exact box_new _ _ _ 3 _ rfl
  obtain ⟨w_b_1, hw_b_1⟩ : ∃ x, w_a_0.alloc (.cells #[.int .i64 b_a, .int .i64 b_x, .int .i64 b_b, .int .i64 b_y] 96) = x := ⟨_, rfl⟩
  have bw_b_1 : Below w_a_0.heap.size w_a_0 w_b_1 := by rw [← hw_b_1]; exact (Below.refl _ _).alloc (Nat.le_refl _) _
  have HBw_b_1 := Lib.hid (Below.step HBw_a_0.out bw_b_1)
  have ka_0_0__288 := cell_below bw_b_1 ka_0_0
  have ka_0_1__289 := cell_below bw_b_1 ka_0_1
  have ka_0_2__290 := cell_below bw_b_1 ka_0_2
  have ka_0_3__291 := cell_below bw_b_1 ka_0_3
  clear bw_b_1
  have kb_1_0 : w_b_1.cell? ⟨w_a_0.heap.size, 0, none⟩ = some (.int .i64 b_a) := by rw [← hw_b_1]; exact box_new _ _ _ 0 _ rfl
  have kb_1_1 : w_b_1.cell? ⟨w_a_0.heap.size, 1, none⟩ = some (.int .i64 b_x) := by rw [← hw_b_1]; exact box_new _ _ _ 1 _ rfl
  have kb_1_2 : w_b_1.cell? ⟨w_a_0.heap.size, 2, none⟩ = some (.int .i64 b_b) := by rw [← hw_b_1]; exact box_new _ _ _ 2 _ rfl
  have kb_1_3 : w_b_1.cell? ⟨w_a_0.heap.size, 3, none⟩ = some (.int .i64 b_y) := by rw [← hw_b_1]; exact box_new _ _ _ 3 _ rfl
  replace H := let_hid H
  obtain ⟨t_7, ht_7, H⟩ := H
  cases t_7 with
  | false =>
    replace H := ite_f H
    replace H := let_hid H
    obtain ⟨t_13, ht_13, H⟩ := H
    cases t_13 with
    | false =>
      replace H := ite_f H
      replace H := let_hid H
      obtain ⟨t_19, ht_19, H⟩ := H
      cases t_19 with
      | false =>
        replace H := ite_f H
        replace H := let_hid H
        obtain ⟨t_25, ht_25, H⟩ := H
        cases t_25 with
        | false =>
          replace H := ite_f H
          obtain rfl := ret_hid H
          go_wp2_with fail
          go_ret
          exact ⟨rfl, HBw_b_1.out⟩
        | true =>
          replace H := ite_t H
          obtain rfl := ret_hid H
          go_wp2_with fail
          go_ret
          exact ⟨rfl, HBw_b_1.out⟩
      | true =>
        replace H := ite_t H
        obtain rfl := ret_hid H
        go_wp2_with fail
        go_ret
        exact ⟨rfl, HBw_b_1.out⟩
    | true =>
      replace H := ite_t H
      obtain rfl := ret_hid H
      go_wp2_with fail
      go_ret
      exact ⟨rfl, HBw_b_1.out⟩
  | true =>
    replace H := ite_t H
    obtain rfl := ret_hid H
    go_wp2_with fail
    go_ret
    exact ⟨rfl, HBw_b_1.out⟩
end Go.Proofs.Ytdbgmcgjklmkkaa.GlEqBan

/- loop.example/g01062/laws.eqBanS as a plain function, and the contract of the program's: where the plain one has an answer, the program has it. Conditions: slices read as lists. -/
namespace Go.Proofs.Ytdbgmcgjklmkkaa.GlEqBanS
set_option linter.unusedVariables false
set_option linter.unusedSimpArgs false
open Go.RowKit
open Go.Proofs.Ytdbgmcgjklmkkaa.Rowed Go.Proofs.Ytdbgmcgjklmkkaa.Turn Go.Proofs.Ytdbgmcgjklmkkaa.Aid Go.Proofs.Ytdbgmcgjklmkkaa.GoP Go.Proofs.Ytdbgmcgjklmkkaa.GoM

def l0 (a : (List Go.Proofs.Ytdbgmcgjklmkkaa.PBan.Ban)) (b : (List Go.Proofs.Ytdbgmcgjklmkkaa.PBan.Ban)) (k0 : Nat) (s : Unit) (nx0 bk0 : Unit → Option (Bool)) : Option (Bool) :=
  
  Option.bind (idx a (k0 : Int)) fun (yt_14 : Go.Proofs.Ytdbgmcgjklmkkaa.PBan.Ban) =>
  unBan yt_14 fun (t_14_a : Int) (t_14_x : Int) (t_14_b : Int) (t_14_y : Int) =>
  Option.bind (idx b (k0 : Int)) fun (yt_18 : Go.Proofs.Ytdbgmcgjklmkkaa.PBan.Ban) =>
  unBan yt_18 fun (t_18_a : Int) (t_18_x : Int) (t_18_b : Int) (t_18_y : Int) =>
  Option.bind (Go.Proofs.Ytdbgmcgjklmkkaa.GlEqBan.P (Go.Proofs.Ytdbgmcgjklmkkaa.PBan.Ban.mk t_14_a t_14_x t_14_b t_14_y) (Go.Proofs.Ytdbgmcgjklmkkaa.PBan.Ban.mk t_18_a t_18_x t_18_b t_18_y)) fun (t_20 : Bool) =>
  letK (!t_20) fun (t_21 : Bool) =>
  iteK t_21
  (some false)
  (appK nx0 ())

def e0  (s : Unit) : Option (Bool) :=
  
  some true

def P (a : (List Go.Proofs.Ytdbgmcgjklmkkaa.PBan.Ban)) (b : (List Go.Proofs.Ytdbgmcgjklmkkaa.PBan.Ban)) : Option (Bool) :=
  letK ((a.length : Int) != (b.length : Int)) fun (t_5 : Bool) =>
  iteK t_5
  (some false)
  (cntK (l0 a b) (a.length) 0 () (e0 ))

set_option maxRecDepth 100000 in
set_option maxHeartbeats 2000000 in
theorem C (a : (List Go.Proofs.Ytdbgmcgjklmkkaa.PBan.Ban)) (b : (List Go.Proofs.Ytdbgmcgjklmkkaa.PBan.Ban)) (A0 : Option Addr) (c0 : Nat) (A1 : Option Addr) (c1 : Nat)  (w : World) (M0 : Hid (Cells w 4 A0 a.length (Go.Proofs.Ytdbgmcgjklmkkaa.PBan.flat a))) (N0 : Hid (a.length ≤ 9223372036854775807)) (M1 : Hid (Cells w 4 A1 b.length (Go.Proofs.Ytdbgmcgjklmkkaa.PBan.flat b))) (N1 : Hid (b.length ≤ 9223372036854775807))  {r : Bool} (H : Hid (P a b = some r)) :
    Calls Try.prog 76 #[.slice A0 a.length c0, .slice A1 b.length c1] w (Gives (.bool r) w) := by
  have HB := Lib.hid (Below.refl w.heap.size w)
  unfold P at H
  have N0o := N0.out
  have N1o := N1.out
  go_enter Try.func76, Try.ntmps76
  replace H := let_hid H
  obtain ⟨t_5, ht_5, H⟩ := H
  cases t_5 with
  | false =>
    have Hht_5 : Hid (a.length = b.length) := Lib.hid (by have := bne_eq_false_iff_eq.1 ht_5; omega)
    have nht_5 : (a.length == b.length) = true := beq_iff_eq.2 Hht_5.out
    replace H := ite_f H
    go_wp2_with fail
    go_loopg [5] (a.length) (fun m_ v5_ wr => ∃ (k0 : Nat) , k0 + m_ = a.length ∧ v5_ = .int .i64 (k0 : Int) ∧ Hid (cntK (l0 a b) m_ k0 () (e0 ) = some r) ∧ Hid (Below w.heap.size w wr))
    case atStart => exact ⟨0, by omega, rfl, H, HB⟩
    case round =>
      obtain ⟨k0, hkm0, rfl, H, HBwr0⟩ := hrel
      rename World => wr0
      cases gk with
      | zero =>
        obtain rfl : k0 = a.length := by omega
        have hc0 : decide (((a.length : Nat) : Int) < ((a.length : Nat) : Int)) = false := by simp
        replace H := cnt_zero H
        unfold e0 at H
        obtain rfl := ret_hid H
        go_wp2_with fail
        go_ret
        exact ⟨rfl, HBwr0.out⟩
      | succ m0 =>
        have hlt0 : k0 < a.length := by omega
        have hc0 : decide ((k0 : Int) < ((a.length : Nat) : Int)) = true := by simp; omega
        replace H := cnt_succ H
        unfold l0 at H
        go_wp2_with fail
        replace H := idx_hid H
        obtain ⟨nt_14, yt_14, et_14, lt_14, gt_14, H⟩ := H
        obtain rfl : k0 = nt_14 := by omega
        clear et_14
        obtain ⟨t_14_a, t_14_x, t_14_b, t_14_y⟩ := yt_14
        replace H := unBan_hid H
        obtain ⟨ab_t_14, ao_t_14, zt_14, At_14, z_t_14, ct_14_0, ct_14_1, ct_14_2, ct_14_3⟩ := Go.Proofs.Ytdbgmcgjklmkkaa.OBan.at_ M0.out lt_14
        obtain rfl := Option.some.inj (gt_14.out.symm.trans z_t_14)
        subst At_14
        have ltt_14 := cell_lt ct_14_0
        replace ct_14_0 := cell_below HBwr0.out ct_14_0
        replace ct_14_1 := cell_below HBwr0.out ct_14_1
        replace ct_14_2 := cell_below HBwr0.out ct_14_2
        replace ct_14_3 := cell_below HBwr0.out ct_14_3
        clear z_t_14
        have b0t_14 : (0 : Int) ≤ (k0 : Int) := by omega
        have b1t_14 : (k0 : Int) < ((a.length : Nat) : Int) := by omega
        have b2t_14 : ((k0 : Int)).toNat = k0 := by omega
        have Hct_14_0 := Lib.hid ct_14_0
        replace ct_14_0 := cell_regrown ct_14_0
        have Hct_14_1 := Lib.hid ct_14_1
        replace ct_14_1 := cell_regrown ct_14_1
        have Hct_14_2 := Lib.hid ct_14_2
        replace ct_14_2 := cell_regrown ct_14_2
        have Hct_14_3 := Lib.hid ct_14_3
        replace ct_14_3 := cell_regrown ct_14_3
        replace H := idx_hid H
        obtain ⟨nt_18, yt_18, et_18, lt_18, gt_18, H⟩ := H
        obtain rfl : k0 = nt_18 := by omega
        clear et_18
        obtain ⟨t_18_a, t_18_x, t_18_b, t_18_y⟩ := yt_18
        replace H := unBan_hid H
        obtain ⟨ab_t_18, ao_t_18, zt_18, At_18, z_t_18, ct_18_0, ct_18_1, ct_18_2, ct_18_3⟩ := Go.Proofs.Ytdbgmcgjklmkkaa.OBan.at_ M1.out lt_18
        obtain rfl := Option.some.inj (gt_18.out.symm.trans z_t_18)
        subst At_18
        have ltt_18 := cell_lt ct_18_0
        replace ct_18_0 := cell_below HBwr0.out ct_18_0
        replace ct_18_1 := cell_below HBwr0.out ct_18_1
        replace ct_18_2 := cell_below HBwr0.out ct_18_2
        replace ct_18_3 := cell_below HBwr0.out ct_18_3
        clear z_t_18
        have b0t_18 : (0 : Int) ≤ (k0 : Int) := by omega
        have b1t_18 : (k0 : Int) < ((b.length : Nat) : Int) := by omega
        have b2t_18 : ((k0 : Int)).toNat = k0 := by omega
        have Hct_18_0 := Lib.hid ct_18_0
        replace ct_18_0 := cell_regrown ct_18_0
        have Hct_18_1 := Lib.hid ct_18_1
        replace ct_18_1 := cell_regrown ct_18_1
        have Hct_18_2 := Lib.hid ct_18_2
        replace ct_18_2 := cell_regrown ct_18_2
        have Hct_18_3 := Lib.hid ct_18_3
        replace ct_18_3 := cell_regrown ct_18_3
        replace H := bind_hid H
        obtain ⟨t_20, qt_20, H⟩ := H
        have nt_20 : ∀ d os, Calls Try.prog 131 #[.agg #[.int .i64 t_14_a, .int .i64 t_14_x, .int .i64 t_14_b, .int .i64 t_14_y], .agg #[.int .i64 t_18_a, .int .i64 t_18_x, .int .i64 t_18_b, .int .i64 t_18_y]] (Go.Sort.grow (redrawn wr0 d) os) fun e w'' => e = .returned (.bool t_20) ∧ ∃ p : Regrown, w'' = Go.Sort.grow (redrawn wr0 p.d) p.os := fun d os => Calls.regrown_of (Go.Proofs.Ytdbgmcgjklmkkaa.GlEqBan.C ((Go.Proofs.Ytdbgmcgjklmkkaa.PBan.Ban.mk t_14_a t_14_x t_14_b t_14_y)) ((Go.Proofs.Ytdbgmcgjklmkkaa.PBan.Ban.mk t_18_a t_18_x t_18_b t_18_y))  _    qt_20)
        cases t_20 with
        | false =>
          replace H := let_hid H
          obtain ⟨t_21, ht_21, H⟩ := H
          obtain rfl : t_21 = true := ht_21.symm
          refine wp_region_quiet_below (by kernel_rfl) (by kernel_rfl) ?_
          repeat (go_big_quiet_step (first | (go_at_call 131; exact nt_20 _ _)))
          refine wpQuiet_nil ?_
          intro Y6 hY6
          replace hY6 := below_class hY6
          clear nt_20
          replace ct_14_0 := Hct_14_0.out
          clear Hct_14_0
          replace ct_14_1 := Hct_14_1.out
          clear Hct_14_1
          replace ct_14_2 := Hct_14_2.out
          clear Hct_14_2
          replace ct_14_3 := Hct_14_3.out
          clear Hct_14_3
          replace ct_18_0 := Hct_18_0.out
          clear Hct_18_0
          replace ct_18_1 := Hct_18_1.out
          clear Hct_18_1
          replace ct_18_2 := Hct_18_2.out
          clear Hct_18_2
          replace ct_18_3 := Hct_18_3.out
          clear Hct_18_3
          have HBY6 := Lib.hid (Below.step HBwr0.out hY6)
          replace ct_14_0 := cell_below hY6 ct_14_0
          replace ct_14_1 := cell_below hY6 ct_14_1
          replace ct_14_2 := cell_below hY6 ct_14_2
          replace ct_14_3 := cell_below hY6 ct_14_3
          replace ct_18_0 := cell_below hY6 ct_18_0
          replace ct_18_1 := cell_below hY6 ct_18_1
          replace ct_18_2 := cell_below hY6 ct_18_2
          replace ct_18_3 := cell_below hY6 ct_18_3
          clear hY6
          replace H := ite_t H
          obtain rfl := ret_hid H
          go_wp2_with fail
          go_ret
          exact ⟨rfl, HBY6.out⟩
        | true =>
          replace H := let_hid H
          obtain ⟨t_21, ht_21, H⟩ := H
          obtain rfl : t_21 = false := ht_21.symm
          refine wp_region_quiet_below (by kernel_rfl) (by kernel_rfl) ?_
          repeat (go_big_quiet_step (first | (go_at_call 131; exact nt_20 _ _)))
          refine wpQuiet_nil ?_
          intro Y6 hY6
          replace hY6 := below_class hY6
          clear nt_20
          replace ct_14_0 := Hct_14_0.out
          clear Hct_14_0
          replace ct_14_1 := Hct_14_1.out
          clear Hct_14_1
          replace ct_14_2 := Hct_14_2.out
          clear Hct_14_2
          replace ct_14_3 := Hct_14_3.out
          clear Hct_14_3
          replace ct_18_0 := Hct_18_0.out
          clear Hct_18_0
          replace ct_18_1 := Hct_18_1.out
          clear Hct_18_1
          replace ct_18_2 := Hct_18_2.out
          clear Hct_18_2
          replace ct_18_3 := Hct_18_3.out
          clear Hct_18_3
          have HBY6 := Lib.hid (Below.step HBwr0.out hY6)
          replace ct_14_0 := cell_below hY6 ct_14_0
          replace ct_14_1 := cell_below hY6 ct_14_1
          replace ct_14_2 := cell_below hY6 ct_14_2
          replace ct_14_3 := cell_below hY6 ct_14_3
          replace ct_18_0 := cell_below hY6 ct_18_0
          replace ct_18_1 := cell_below hY6 ct_18_1
          replace ct_18_2 := cell_below hY6 ct_18_2
          replace ct_18_3 := cell_below hY6 ct_18_3
          clear hY6
          replace H := ite_f H
          replace H := app_hid H
          go_wp2_with fail
          go_roundg m0
          case measure => omega
          case rel => exact ⟨k0 + 1, by omega, by go_num, H, HBY6⟩
  | true =>
    have nht_5 : ¬ (a.length = b.length) := by have := bne_iff_ne.1 ht_5; omega
    replace H := ite_t H
    obtain rfl := ret_hid H
    go_wp2_with fail
    go_ret
    exact ⟨rfl, HB.out⟩
end Go.Proofs.Ytdbgmcgjklmkkaa.GlEqBanS

/- loop.example/g01062/laws.eqKindTable as a plain function, and the contract of the program's: where the plain one has an answer, the program has it. Conditions: slices read as lists. -/
namespace Go.Proofs.Ytdbgmcgjklmkkaa.GlEqKindTable
set_option linter.unusedVariables false
set_option linter.unusedSimpArgs false
open Go.RowKit
open Go.Proofs.Ytdbgmcgjklmkkaa.Rowed Go.Proofs.Ytdbgmcgjklmkkaa.Turn Go.Proofs.Ytdbgmcgjklmkkaa.Aid Go.Proofs.Ytdbgmcgjklmkkaa.GoP Go.Proofs.Ytdbgmcgjklmkkaa.GoM

def P (a_sizes : (List Int)) (a_bans : (List Go.Proofs.Ytdbgmcgjklmkkaa.PBan.Ban)) (b_sizes : (List Int)) (b_bans : (List Go.Proofs.Ytdbgmcgjklmkkaa.PBan.Ban)) : Option (Bool) :=
  Option.bind (Go.Proofs.Ytdbgmcgjklmkkaa.GlEqIntS.P a_sizes b_sizes) fun (t_7 : Bool) =>
  letK (!t_7) fun (t_8 : Bool) =>
  iteK t_8
  (some false)
  (Option.bind (Go.Proofs.Ytdbgmcgjklmkkaa.GlEqBanS.P a_bans b_bans) fun (t_14 : Bool) =>
  letK (!t_14) fun (t_15 : Bool) =>
  iteK t_15
  (some false)
  (some true))

set_option maxRecDepth 100000 in
set_option maxHeartbeats 2000000 in
theorem C (a_sizes : (List Int)) (a_bans : (List Go.Proofs.Ytdbgmcgjklmkkaa.PBan.Ban)) (b_sizes : (List Int)) (b_bans : (List Go.Proofs.Ytdbgmcgjklmkkaa.PBan.Ban)) (A0_0 : Option Addr) (c0_0 : Nat) (A0_1 : Option Addr) (c0_1 : Nat) (A1_0 : Option Addr) (c1_0 : Nat) (A1_1 : Option Addr) (c1_1 : Nat)  (w : World) (M0_0 : Hid (Cells w 1 A0_0 a_sizes.length (Go.Proofs.Ytdbgmcgjklmkkaa.HelpInt.iv a_sizes))) (N0_0 : Hid (a_sizes.length ≤ 9223372036854775807)) (M0_1 : Hid (Cells w 4 A0_1 a_bans.length (Go.Proofs.Ytdbgmcgjklmkkaa.PBan.flat a_bans))) (N0_1 : Hid (a_bans.length ≤ 9223372036854775807)) (M1_0 : Hid (Cells w 1 A1_0 b_sizes.length (Go.Proofs.Ytdbgmcgjklmkkaa.HelpInt.iv b_sizes))) (N1_0 : Hid (b_sizes.length ≤ 9223372036854775807)) (M1_1 : Hid (Cells w 4 A1_1 b_bans.length (Go.Proofs.Ytdbgmcgjklmkkaa.PBan.flat b_bans))) (N1_1 : Hid (b_bans.length ≤ 9223372036854775807))  {r : Bool} (H : Hid (P a_sizes a_bans b_sizes b_bans = some r)) :
    Calls Try.prog 17 #[.agg #[.slice A0_0 a_sizes.length c0_0, .slice A0_1 a_bans.length c0_1], .agg #[.slice A1_0 b_sizes.length c1_0, .slice A1_1 b_bans.length c1_1]] w (Gives (.bool r) w) := by
  have HB := Lib.hid (Below.refl w.heap.size w)
  unfold P at H
  have N0_0o := N0_0.out
  have N0_1o := N0_1.out
  have N1_0o := N1_0.out
  have N1_1o := N1_1.out
  go_enter Try.func17, Try.ntmps17
  obtain ⟨w_a_0, hw_a_0⟩ : ∃ x, w.alloc (.cells #[.slice A0_0 a_sizes.length c0_0, .slice A0_1 a_bans.length c0_1] 31) = x := ⟨_, rfl⟩
  have bw_a_0 : Below w.heap.size w w_a_0 := by rw [← hw_a_0]; exact (Below.refl _ _).alloc (Nat.le_refl _) _
  have HBw_a_0 := Lib.hid (Below.step HB.out bw_a_0)
  clear bw_a_0
  have ka_0_0 : w_a_0.cell? ⟨w.heap.size, 0, none⟩ = some (.slice A0_0 a_sizes.length c0_0) := by rw [← hw_a_0]; exact box_new _ _ _ 0 _ rfl
  have ka_0_1 : w_a_0.cell? ⟨w.heap.size, 1, none⟩ = some (.slice A0_1 a_bans.length c0_1) := by rw [← hw_a_0]; exact box_new _ _ _ 1 _ rfl
  obtain ⟨w_b_1, hw_b_1⟩ : ∃ x, w_a_0.alloc (.cells #[.slice A1_0 b_sizes.length c1_0, .slice A1_1 b_bans.length c1_1] 31) = x := ⟨_, rfl⟩
  have bw_b_1 : Below w_a_0.heap.size w_a_0 w_b_1 := by rw [← hw_b_1]; exact (Below.refl _ _).alloc (Nat.le_refl _) _
  have HBw_b_1 := Lib.hid (Below.step HBw_a_0.out bw_b_1)
  have ka_0_0__292 := cell_below bw_b_1 ka_0_0
  have ka_0_1__293 := cell_below bw_b_1 ka_0_1
  clear bw_b_1
  have kb_1_0 : w_b_1.cell? ⟨w_a_0.heap.size, 0, none⟩ = some (.slice A1_0 b_sizes.length c1_0) := by rw [← hw_b_1]; exact box_new _ _ _ 0 _ rfl
  have kb_1_1 : w_b_1.cell? ⟨w_a_0.heap.size, 1, none⟩ = some (.slice A1_1 b_bans.length c1_1) := by rw [← hw_b_1]; exact box_new _ _ _ 1 _ rfl
  replace H := bind_hid H
  obtain ⟨t_7, qt_7, H⟩ := H
  go_wp2_with fail
  clear ka_0_0 ka_0_1
  go_at_call 16
  refine (Go.Proofs.Ytdbgmcgjklmkkaa.GlEqIntS.C (a_sizes) (b_sizes) A0_0 c0_0 A1_0 c1_0 _   (Lib.hid (Cells.below M0_0.out HBw_b_1.out)) N0_0 (Lib.hid (Cells.below M1_0.out HBw_b_1.out)) N1_0 qt_7).mono ?_
  rintro e_t_7 wt_7 ⟨rfl, bt_7⟩
  have HBwt_7 := Lib.hid (Below.step HBw_b_1.out bt_7)
  replace ka_0_0__292 := cell_below bt_7 ka_0_0__292
  replace ka_0_1__293 := cell_below bt_7 ka_0_1__293
  replace kb_1_0 := cell_below bt_7 kb_1_0
  replace kb_1_1 := cell_below bt_7 kb_1_1
  clear bt_7
  cases t_7 with
  | false =>
    replace H := let_hid H
    obtain ⟨t_8, ht_8, H⟩ := H
    obtain rfl : t_8 = true := ht_8.symm
    replace H := ite_t H
    obtain rfl := ret_hid H
    go_wp2_with fail
    go_ret
    exact ⟨rfl, HBwt_7.out⟩
  | true =>
    replace H := let_hid H
    obtain ⟨t_8, ht_8, H⟩ := H
    obtain rfl : t_8 = false := ht_8.symm
    replace H := ite_f H
    replace H := bind_hid H
    obtain ⟨t_14, qt_14, H⟩ := H
    go_wp2_with fail
    go_at_call 76
    refine (Go.Proofs.Ytdbgmcgjklmkkaa.GlEqBanS.C (a_bans) (b_bans) A0_1 c0_1 A1_1 c1_1 _   (Lib.hid (Cells.below M0_1.out HBwt_7.out)) N0_1 (Lib.hid (Cells.below M1_1.out HBwt_7.out)) N1_1 qt_14).mono ?_
    rintro e_t_14 wt_14 ⟨rfl, bt_14⟩
    have HBwt_14 := Lib.hid (Below.step HBwt_7.out bt_14)
    replace ka_0_0__292 := cell_below bt_14 ka_0_0__292
    replace ka_0_1__293 := cell_below bt_14 ka_0_1__293
    replace kb_1_0 := cell_below bt_14 kb_1_0
    replace kb_1_1 := cell_below bt_14 kb_1_1
    clear bt_14
    cases t_14 with
    | false =>
      replace H := let_hid H
      obtain ⟨t_15, ht_15, H⟩ := H
      obtain rfl : t_15 = true := ht_15.symm
      replace H := ite_t H
      obtain rfl := ret_hid H
      go_wp2_with fail
      go_ret
      exact ⟨rfl, HBwt_14.out⟩
    | true =>
      replace H := let_hid H
      obtain ⟨t_15, ht_15, H⟩ := H
      obtain rfl : t_15 = false := ht_15.symm
      replace H := ite_f H
      obtain rfl := ret_hid H
      go_wp2_with fail
      go_ret
      exact ⟨rfl, HBwt_14.out⟩
end Go.Proofs.Ytdbgmcgjklmkkaa.GlEqKindTable

/- loop.example/g01062/laws.markIntS as a plain function, and the contract of the program's: where the plain one has an answer, the program has it. Conditions: slices read as lists. -/
namespace Go.Proofs.Ytdbgmcgjklmkkaa.GlMarkIntS
set_option linter.unusedVariables false
set_option linter.unusedSimpArgs false
open Go.RowKit
open Go.Proofs.Ytdbgmcgjklmkkaa.Rowed Go.Proofs.Ytdbgmcgjklmkkaa.Turn Go.Proofs.Ytdbgmcgjklmkkaa.Aid Go.Proofs.Ytdbgmcgjklmkkaa.GoP Go.Proofs.Ytdbgmcgjklmkkaa.GoM

def l0  (k0 : Nat) (s : (List Int) × Int) (nx0 bk0 : (List Int) × Int → Option (Int × (List Int))) : Option (Int × (List Int)) :=
  unp2 s fun a_0l0 k_1l0 =>
  Option.bind (idx a_0l0 (k0 : Int)) fun (yt_9 : Int) =>
  letK (a_0l0.set k0 k_1l0) fun (l10_10 : (List Int)) =>
  letK (IntKind.i64.wrap (k_1l0 + 1)) fun (t_12 : Int) =>
  appK nx0 (l10_10, t_12)

def e0  (s : (List Int) × Int) : Option (Int × (List Int)) :=
  unp2 s fun a_0l0 k_1l0 =>
  some (k_1l0, a_0l0)

def P (a : (List Int)) (k_1 : Int) : Option (Int × (List Int)) :=
  cntK (l0 ) (a.length) 0 (a, k_1) (e0 )

set_option maxRecDepth 100000 in
set_option maxHeartbeats 2000000 in
theorem C (a : (List Int)) (k_1 : Int) (A0 : Option Addr) (c0 : Nat)  (b0 : Nat) (w : World) (M0 : Hid (w.ownsRow b0 3 1 (.slice A0 a.length c0) a.length (Go.Proofs.Ytdbgmcgjklmkkaa.HelpInt.iv a))) (N0 : Hid (a.length ≤ 9223372036854775807))  {r : Int} {l_ : (List Int)} (H : Hid (P a k_1 = some (r, l_))) :
    Calls Try.prog 19 #[.slice A0 a.length c0, .int .i64 k_1] w (fun e w' => e = .returned (.int .i64 r) ∧ w'.ownsRow b0 3 1 (.slice A0 a.length c0) a.length (Go.Proofs.Ytdbgmcgjklmkkaa.HelpInt.iv l_) ∧ l_.length = a.length ∧ w.grownBy w' (Value.slice A0 a.length c0).ownBlock) := by
  have HB := Lib.hid (Aid.grown_refl w (Value.slice A0 a.length c0).ownBlock)
  unfold P at H
  have N0o := N0.out
  go_enter Try.func19, Try.ntmps19
  go_wp2_with fail
  have hb_0 : a.length ≤ 9223372036854775807 := own_max M0.out
  go_wp2_with fail
  go_loopg [5, 1] (a.length) (fun m_ v5_ v1_ wr => ∃ (k0 : Nat) (a_0l0 : (List Int)) (k_1l0 : Int), k0 + m_ = a.length ∧ v5_ = .int .i64 (k0 : Int) ∧ v1_ = .int .i64 k_1l0 ∧ Hid (cntK (l0 ) m_ k0 (a_0l0, k_1l0) (e0 ) = some (r, l_)) ∧ Hid (w.grownBy wr (Value.slice A0 a.length c0).ownBlock) ∧ Hid (wr.ownsRow b0 3 1 (.slice A0 a.length c0) a.length (Go.Proofs.Ytdbgmcgjklmkkaa.HelpInt.iv a_0l0)) ∧ Hid (a_0l0.length = a.length))
  case atStart => exact ⟨0, _, _, by omega, rfl, rfl, H, HB, M0, Lib.hid (rfl)⟩
  case round =>
    obtain ⟨k0, a_0l0, k_1l0, hkm0, rfl, rfl, H, HBwr0, Oa_0l0, hna_0l0⟩ := hrel
    rename World => wr0
    cases gk with
    | zero =>
      obtain rfl : k0 = a.length := by omega
      have hc0 : decide (((a.length : Nat) : Int) < ((a.length : Nat) : Int)) = false := by simp
      replace H := cnt_zero H
      unfold e0 at H
      replace H := unp2_hid H
      cases ret_hid H
      go_wp2_with fail
      go_ret
      exact ⟨rfl, Oa_0l0.out, hna_0l0.out, HBwr0.out⟩
    | succ m0 =>
      have hlt0 : k0 < a.length := by omega
      have hc0 : decide ((k0 : Int) < ((a.length : Nat) : Int)) = true := by simp; omega
      replace H := cnt_succ H
      unfold l0 at H
      replace H := unp2_hid H
      replace H := idx_hid H
      obtain ⟨nt_9, yt_9, et_9, lt_9, gt_9, H⟩ := H
      obtain rfl : k0 = nt_9 := by omega
      clear et_9
      have hqt_9 := hna_0l0.out
      obtain ⟨qt_9, Qt_9⟩ := own_some Oa_0l0.out (by omega)
      subst Qt_9
      obtain ⟨ab_t_9, ao_t_9, zt_9, At_9, z_t_9, ct_9_0⟩ := Go.Proofs.Ytdbgmcgjklmkkaa.HelpInt.Ints.at_ (own_cells Oa_0l0.out) (k := k0) (by omega)
      obtain rfl := Option.some.inj (gt_9.out.symm.trans z_t_9)
      simp only [Option.some.injEq, Addr.mk.injEq] at At_9
      obtain ⟨rfl, rfl, _⟩ := At_9
      clear z_t_9
      simp only [Nat.zero_add] at ct_9_0
      have b0t_9 : (0 : Int) ≤ (k0 : Int) := by omega
      have b1t_9 : (k0 : Int) < ((a.length : Nat) : Int) := by omega
      have b2t_9 : ((k0 : Int)).toNat = k0 := by omega
      clear hqt_9
      replace H := let_hid H
      obtain ⟨l10_10, hl10_10, H⟩ := H
      try simp only [Int.toNat_natCast] at hl10_10
      obtain ⟨wl10_10, hwl10_10⟩ : ∃ x, (wr0).setCell ⟨qt_9, k0, none⟩ (.int .i64 k_1l0) = x := ⟨_, rfl⟩
      have z0l10_10 := Oa_0l0.out.frozenAt (k0)
      have Sl10_10 := Lib.hid (own_stores [(k0, .int .i64 k_1l0)] Oa_0l0.out)
      have nl10_10 : Hid (l10_10.length = a.length) := Lib.hid (by rw [← hl10_10, List.length_set]; exact hna_0l0.out)
      have Pl10_10 : Hid (wl10_10.ownsRow b0 3 1 (.slice (some ⟨qt_9, 0, none⟩) a.length c0) a.length (Go.Proofs.Ytdbgmcgjklmkkaa.HelpInt.iv l10_10)) := Lib.hid (by have e_ : ([(k0, .int .i64 k_1l0)] : List (Nat × Value)).foldl (fun xs p => xs.set p.1 p.2) (Go.Proofs.Ytdbgmcgjklmkkaa.HelpInt.iv a_0l0) = (Go.Proofs.Ytdbgmcgjklmkkaa.HelpInt.iv l10_10) := (by rw [← hl10_10]; first | done | simp [Go.Proofs.Ytdbgmcgjklmkkaa.HelpInt.iv, List.map_set]); rw [← hwl10_10, ← e_]; exact Sl10_10.out.1)
      have Gl10_10 : Hid (wr0.grownBy wl10_10 (Value.slice (some ⟨qt_9, 0, none⟩) a.length c0).ownBlock) := Lib.hid (by rw [← hwl10_10]; exact Sl10_10.out.2)
      have HBwl10_10 := Lib.hid (Aid.grown_tr HBwr0.out Gl10_10.out)
      have hhl10_10 := Lib.hid hl10_10
      clear hl10_10 Sl10_10
      clear Oa_0l0 Gl10_10
      replace H := let_hid H
      obtain ⟨t_12, ht_12, H⟩ := H
      replace H := app_hid H
      go_wp2_with fail
      clear z0l10_10 ct_9_0
      go_roundg m0
      case measure => omega
      case rel => exact ⟨k0 + 1, _, _, by omega, by go_num, rfl, H, HBwl10_10, Pl10_10, Lib.hid (nl10_10.out)⟩
end Go.Proofs.Ytdbgmcgjklmkkaa.GlMarkIntS

/- loop.example/g01062/laws.markBanS as a plain function, and the contract of the program's: where the plain one has an answer, the program has it. Conditions: slices read as lists. -/
namespace Go.Proofs.Ytdbgmcgjklmkkaa.GlMarkBanS
set_option linter.unusedVariables false
set_option linter.unusedSimpArgs false
open Go.RowKit
open Go.Proofs.Ytdbgmcgjklmkkaa.Rowed Go.Proofs.Ytdbgmcgjklmkkaa.Turn Go.Proofs.Ytdbgmcgjklmkkaa.Aid Go.Proofs.Ytdbgmcgjklmkkaa.GoP Go.Proofs.Ytdbgmcgjklmkkaa.GoM

def l0  (k0 : Nat) (s : (List Go.Proofs.Ytdbgmcgjklmkkaa.PBan.Ban) × Int) (nx0 bk0 : (List Go.Proofs.Ytdbgmcgjklmkkaa.PBan.Ban) × Int → Option (Int × (List Go.Proofs.Ytdbgmcgjklmkkaa.PBan.Ban))) : Option (Int × (List Go.Proofs.Ytdbgmcgjklmkkaa.PBan.Ban)) :=
  unp2 s fun a_0l0 k_1l0 =>
  Option.bind (idx a_0l0 (k0 : Int)) fun (yt_9 : Go.Proofs.Ytdbgmcgjklmkkaa.PBan.Ban) =>
  unBan yt_9 fun (t_9_a : Int) (t_9_x : Int) (t_9_b : Int) (t_9_y : Int) =>
  letK (a_0l0.set k0 (Go.Proofs.Ytdbgmcgjklmkkaa.PBan.Ban.mk k_1l0 t_9_x t_9_b t_9_y)) fun (l11_11 : (List Go.Proofs.Ytdbgmcgjklmkkaa.PBan.Ban)) =>
  letK (IntKind.i64.wrap (k_1l0 + 1)) fun (t_13 : Int) =>
  Option.bind (idx l11_11 (k0 : Int)) fun (yt_18 : Go.Proofs.Ytdbgmcgjklmkkaa.PBan.Ban) =>
  unBan yt_18 fun (t_18_a : Int) (t_18_x : Int) (t_18_b : Int) (t_18_y : Int) =>
  letK (l11_11.set k0 (Go.Proofs.Ytdbgmcgjklmkkaa.PBan.Ban.mk t_18_a t_13 t_18_b t_18_y)) fun (l20_20 : (List Go.Proofs.Ytdbgmcgjklmkkaa.PBan.Ban)) =>
  letK (IntKind.i64.wrap (t_13 + 1)) fun (t_22 : Int) =>
  Option.bind (idx l20_20 (k0 : Int)) fun (yt_27 : Go.Proofs.Ytdbgmcgjklmkkaa.PBan.Ban) =>
  unBan yt_27 fun (t_27_a : Int) (t_27_x : Int) (t_27_b : Int) (t_27_y : Int) =>
  letK (l20_20.set k0 (Go.Proofs.Ytdbgmcgjklmkkaa.PBan.Ban.mk t_27_a t_27_x t_22 t_27_y)) fun (l29_29 : (List Go.Proofs.Ytdbgmcgjklmkkaa.PBan.Ban)) =>
  letK (IntKind.i64.wrap (t_22 + 1)) fun (t_31 : Int) =>
  Option.bind (idx l29_29 (k0 : Int)) fun (yt_36 : Go.Proofs.Ytdbgmcgjklmkkaa.PBan.Ban) =>
  unBan yt_36 fun (t_36_a : Int) (t_36_x : Int) (t_36_b : Int) (t_36_y : Int) =>
  letK (l29_29.set k0 (Go.Proofs.Ytdbgmcgjklmkkaa.PBan.Ban.mk t_36_a t_36_x t_36_b t_31)) fun (l38_38 : (List Go.Proofs.Ytdbgmcgjklmkkaa.PBan.Ban)) =>
  letK (IntKind.i64.wrap (t_31 + 1)) fun (t_40 : Int) =>
  appK nx0 (l38_38, t_40)

def e0  (s : (List Go.Proofs.Ytdbgmcgjklmkkaa.PBan.Ban) × Int) : Option (Int × (List Go.Proofs.Ytdbgmcgjklmkkaa.PBan.Ban)) :=
  unp2 s fun a_0l0 k_1l0 =>
  some (k_1l0, a_0l0)

def P (a : (List Go.Proofs.Ytdbgmcgjklmkkaa.PBan.Ban)) (k_1 : Int) : Option (Int × (List Go.Proofs.Ytdbgmcgjklmkkaa.PBan.Ban)) :=
  cntK (l0 ) (a.length) 0 (a, k_1) (e0 )

set_option maxRecDepth 100000 in
set_option maxHeartbeats 2000000 in
theorem C (a : (List Go.Proofs.Ytdbgmcgjklmkkaa.PBan.Ban)) (k_1 : Int) (A0 : Option Addr) (c0 : Nat)  (b0 : Nat) (w : World) (M0 : Hid (w.ownsRow b0 96 4 (.slice A0 a.length c0) a.length (Go.Proofs.Ytdbgmcgjklmkkaa.PBan.flat a))) (N0 : Hid (a.length ≤ 9223372036854775807))  {r : Int} {l_ : (List Go.Proofs.Ytdbgmcgjklmkkaa.PBan.Ban)} (H : Hid (P a k_1 = some (r, l_))) :
    Calls Try.prog 77 #[.slice A0 a.length c0, .int .i64 k_1] w (fun e w' => e = .returned (.int .i64 r) ∧ w'.ownsRow b0 96 4 (.slice A0 a.length c0) a.length (Go.Proofs.Ytdbgmcgjklmkkaa.PBan.flat l_) ∧ l_.length = a.length ∧ w.grownBy w' (Value.slice A0 a.length c0).ownBlock) := by
  have HB := Lib.hid (Aid.grown_refl w (Value.slice A0 a.length c0).ownBlock)
  unfold P at H
  have N0o := N0.out
  go_enter Try.func77, Try.ntmps77
  go_wp2_with fail
  have hb_0 : a.length ≤ 9223372036854775807 := own_max M0.out
  go_wp2_with fail
  go_loopg [5, 1] (a.length) (fun m_ v5_ v1_ wr => ∃ (k0 : Nat) (a_0l0 : (List Go.Proofs.Ytdbgmcgjklmkkaa.PBan.Ban)) (k_1l0 : Int), k0 + m_ = a.length ∧ v5_ = .int .i64 (k0 : Int) ∧ v1_ = .int .i64 k_1l0 ∧ Hid (cntK (l0 ) m_ k0 (a_0l0, k_1l0) (e0 ) = some (r, l_)) ∧ Hid (w.grownBy wr (Value.slice A0 a.length c0).ownBlock) ∧ Hid (wr.ownsRow b0 96 4 (.slice A0 a.length c0) a.length (Go.Proofs.Ytdbgmcgjklmkkaa.PBan.flat a_0l0)) ∧ Hid (a_0l0.length = a.length))
  case atStart => exact ⟨0, _, _, by omega, rfl, rfl, H, HB, M0, Lib.hid (rfl)⟩
  case round =>
    obtain ⟨k0, a_0l0, k_1l0, hkm0, rfl, rfl, H, HBwr0, Oa_0l0, hna_0l0⟩ := hrel
    rename World => wr0
    cases gk with
    | zero =>
      obtain rfl : k0 = a.length := by omega
      have hc0 : decide (((a.length : Nat) : Int) < ((a.length : Nat) : Int)) = false := by simp
      replace H := cnt_zero H
      unfold e0 at H
      replace H := unp2_hid H
      cases ret_hid H
      go_wp2_with fail
      go_ret
      exact ⟨rfl, Oa_0l0.out, hna_0l0.out, HBwr0.out⟩
    | succ m0 =>
      have hlt0 : k0 < a.length := by omega
      have hc0 : decide ((k0 : Int) < ((a.length : Nat) : Int)) = true := by simp; omega
      replace H := cnt_succ H
      unfold l0 at H
      replace H := unp2_hid H
      replace H := idx_hid H
      obtain ⟨nt_9, yt_9, et_9, lt_9, gt_9, H⟩ := H
      obtain rfl : k0 = nt_9 := by omega
      clear et_9
      obtain ⟨t_9_a, t_9_x, t_9_b, t_9_y⟩ := yt_9
      replace H := unBan_hid H
      have hqt_9 := hna_0l0.out
      obtain ⟨qt_9, Qt_9⟩ := own_some Oa_0l0.out (by omega)
      subst Qt_9
      obtain ⟨ab_t_9, ao_t_9, zt_9, At_9, z_t_9, ct_9_0, ct_9_1, ct_9_2, ct_9_3⟩ := Go.Proofs.Ytdbgmcgjklmkkaa.OBan.at_ (own_cells Oa_0l0.out) (k := k0) (by omega)
      obtain rfl := Option.some.inj (gt_9.out.symm.trans z_t_9)
      simp only [Option.some.injEq, Addr.mk.injEq] at At_9
      obtain ⟨rfl, rfl, _⟩ := At_9
      clear z_t_9
      simp only [Nat.zero_add] at ct_9_0 ct_9_1 ct_9_2 ct_9_3
      have b0t_9 : (0 : Int) ≤ (k0 : Int) := by omega
      have b1t_9 : (k0 : Int) < ((a.length : Nat) : Int) := by omega
      have b2t_9 : ((k0 : Int)).toNat = k0 := by omega
      clear hqt_9
      replace H := let_hid H
      obtain ⟨l11_11, hl11_11, H⟩ := H
      try simp only [Int.toNat_natCast] at hl11_11
      obtain ⟨wl11_11, hwl11_11⟩ : ∃ x, (wr0).setCell ⟨qt_9, k0 * 4, none⟩ (.int .i64 k_1l0) = x := ⟨_, rfl⟩
      have z0l11_11 := Oa_0l0.out.frozenAt (k0 * 4)
      have Sl11_11 := Lib.hid (own_stores [(k0 * 4, .int .i64 k_1l0)] Oa_0l0.out)
      have nl11_11 : Hid (l11_11.length = a.length) := Lib.hid (by rw [← hl11_11, List.length_set]; exact hna_0l0.out)
      have Pl11_11 : Hid (wl11_11.ownsRow b0 96 4 (.slice (some ⟨qt_9, 0, none⟩) a.length c0) a.length (Go.Proofs.Ytdbgmcgjklmkkaa.PBan.flat l11_11)) := Lib.hid (by have es_ := set_self gt_9.out; have e0_ := flat_set Go.Proofs.Ytdbgmcgjklmkkaa.PBan.Ban.cells 4 (fun _ => rfl) a_0l0 (k0) 0 (Go.Proofs.Ytdbgmcgjklmkkaa.PBan.Ban.mk t_9_a t_9_x t_9_b t_9_y) (Go.Proofs.Ytdbgmcgjklmkkaa.PBan.Ban.mk k_1l0 t_9_x t_9_b t_9_y) (.int .i64 k_1l0) lt_9 (by decide) rfl; rw [es_] at e0_; have e_ : ([(k0 * 4, .int .i64 k_1l0)] : List (Nat × Value)).foldl (fun xs p => xs.set p.1 p.2) (Go.Proofs.Ytdbgmcgjklmkkaa.PBan.flat a_0l0) = (Go.Proofs.Ytdbgmcgjklmkkaa.PBan.flat l11_11) := (by rw [← hl11_11]; show _ = List.flatMap Go.Proofs.Ytdbgmcgjklmkkaa.PBan.Ban.cells _; rw [← e0_]; first | done | rfl); rw [← hwl11_11, ← e_]; exact Sl11_11.out.1)
      have Gl11_11 : Hid (wr0.grownBy wl11_11 (Value.slice (some ⟨qt_9, 0, none⟩) a.length c0).ownBlock) := Lib.hid (by rw [← hwl11_11]; exact Sl11_11.out.2)
      have HBwl11_11 := Lib.hid (Aid.grown_tr HBwr0.out Gl11_11.out)
      have hhl11_11 := Lib.hid hl11_11
      clear hl11_11 Sl11_11
      clear Oa_0l0 Gl11_11
      replace H := let_hid H
      obtain ⟨t_13, ht_13, H⟩ := H
      replace H := idx_hid H
      obtain ⟨nt_18, yt_18, et_18, lt_18, gt_18, H⟩ := H
      obtain rfl : k0 = nt_18 := by omega
      clear et_18
      obtain ⟨t_18_a, t_18_x, t_18_b, t_18_y⟩ := yt_18
      replace H := unBan_hid H
      have hqt_18 := nl11_11.out
      obtain ⟨ab_t_18, ao_t_18, zt_18, At_18, z_t_18, ct_18_0, ct_18_1, ct_18_2, ct_18_3⟩ := Go.Proofs.Ytdbgmcgjklmkkaa.OBan.at_ (own_cells Pl11_11.out) (k := k0) (by omega)
      obtain rfl := Option.some.inj (gt_18.out.symm.trans z_t_18)
      simp only [Option.some.injEq, Addr.mk.injEq] at At_18
      obtain ⟨rfl, rfl, _⟩ := At_18
      clear z_t_18
      simp only [Nat.zero_add] at ct_18_0 ct_18_1 ct_18_2 ct_18_3
      have b0t_18 : (0 : Int) ≤ (k0 : Int) := by omega
      have b1t_18 : (k0 : Int) < ((a.length : Nat) : Int) := by omega
      have b2t_18 : ((k0 : Int)).toNat = k0 := by omega
      clear hqt_18
      replace H := let_hid H
      obtain ⟨l20_20, hl20_20, H⟩ := H
      try simp only [Int.toNat_natCast] at hl20_20
      obtain ⟨wl20_20, hwl20_20⟩ : ∃ x, (wl11_11).setCell ⟨qt_9, k0 * 4 + 1, none⟩ (.int .i64 t_13) = x := ⟨_, rfl⟩
      have z0l20_20 := Pl11_11.out.frozenAt (k0 * 4 + 1)
      have Sl20_20 := Lib.hid (own_stores [(k0 * 4 + 1, .int .i64 t_13)] Pl11_11.out)
      have nl20_20 : Hid (l20_20.length = a.length) := Lib.hid (by rw [← hl20_20, List.length_set]; exact nl11_11.out)
      have Pl20_20 : Hid (wl20_20.ownsRow b0 96 4 (.slice (some ⟨qt_9, 0, none⟩) a.length c0) a.length (Go.Proofs.Ytdbgmcgjklmkkaa.PBan.flat l20_20)) := Lib.hid (by have es_ := set_self gt_18.out; have e0_ := flat_set Go.Proofs.Ytdbgmcgjklmkkaa.PBan.Ban.cells 4 (fun _ => rfl) l11_11 (k0) 1 (Go.Proofs.Ytdbgmcgjklmkkaa.PBan.Ban.mk t_18_a t_18_x t_18_b t_18_y) (Go.Proofs.Ytdbgmcgjklmkkaa.PBan.Ban.mk t_18_a t_13 t_18_b t_18_y) (.int .i64 t_13) lt_18 (by decide) rfl; rw [es_] at e0_; have e_ : ([(k0 * 4 + 1, .int .i64 t_13)] : List (Nat × Value)).foldl (fun xs p => xs.set p.1 p.2) (Go.Proofs.Ytdbgmcgjklmkkaa.PBan.flat l11_11) = (Go.Proofs.Ytdbgmcgjklmkkaa.PBan.flat l20_20) := (by rw [← hl20_20]; show _ = List.flatMap Go.Proofs.Ytdbgmcgjklmkkaa.PBan.Ban.cells _; rw [← e0_]; first | done | rfl); rw [← hwl20_20, ← e_]; exact Sl20_20.out.1)
      have Gl20_20 : Hid (wl11_11.grownBy wl20_20 (Value.slice (some ⟨qt_9, 0, none⟩) a.length c0).ownBlock) := Lib.hid (by rw [← hwl20_20]; exact Sl20_20.out.2)
      have HBwl20_20 := Lib.hid (Aid.grown_tr HBwl11_11.out Gl20_20.out)
      have hhl20_20 := Lib.hid hl20_20
      clear hl20_20 Sl20_20
      clear Pl11_11 Gl20_20
      replace H := let_hid H
      obtain ⟨t_22, ht_22, H⟩ := H
      replace H := idx_hid H
      obtain ⟨nt_27, yt_27, et_27, lt_27, gt_27, H⟩ := H
      obtain rfl : k0 = nt_27 := by omega
      clear et_27
      obtain ⟨t_27_a, t_27_x, t_27_b, t_27_y⟩ := yt_27
      replace H := unBan_hid H
      have hqt_27 := nl20_20.out
      obtain ⟨ab_t_27, ao_t_27, zt_27, At_27, z_t_27, ct_27_0, ct_27_1, ct_27_2, ct_27_3⟩ := Go.Proofs.Ytdbgmcgjklmkkaa.OBan.at_ (own_cells Pl20_20.out) (k := k0) (by omega)
      obtain rfl := Option.some.inj (gt_27.out.symm.trans z_t_27)
      simp only [Option.some.injEq, Addr.mk.injEq] at At_27
      obtain ⟨rfl, rfl, _⟩ := At_27
      clear z_t_27
      simp only [Nat.zero_add] at ct_27_0 ct_27_1 ct_27_2 ct_27_3
      have b0t_27 : (0 : Int) ≤ (k0 : Int) := by omega
      have b1t_27 : (k0 : Int) < ((a.length : Nat) : Int) := by omega
      have b2t_27 : ((k0 : Int)).toNat = k0 := by omega
      clear hqt_27
      replace H := let_hid H
      obtain ⟨l29_29, hl29_29, H⟩ := H
      try simp only [Int.toNat_natCast] at hl29_29
      obtain ⟨wl29_29, hwl29_29⟩ : ∃ x, (wl20_20).setCell ⟨qt_9, k0 * 4 + 2, none⟩ (.int .i64 t_22) = x := ⟨_, rfl⟩
      have z0l29_29 := Pl20_20.out.frozenAt (k0 * 4 + 2)
      have Sl29_29 := Lib.hid (own_stores [(k0 * 4 + 2, .int .i64 t_22)] Pl20_20.out)
      have nl29_29 : Hid (l29_29.length = a.length) := Lib.hid (by rw [← hl29_29, List.length_set]; exact nl20_20.out)
      have Pl29_29 : Hid (wl29_29.ownsRow b0 96 4 (.slice (some ⟨qt_9, 0, none⟩) a.length c0) a.length (Go.Proofs.Ytdbgmcgjklmkkaa.PBan.flat l29_29)) := Lib.hid (by have es_ := set_self gt_27.out; have e0_ := flat_set Go.Proofs.Ytdbgmcgjklmkkaa.PBan.Ban.cells 4 (fun _ => rfl) l20_20 (k0) 2 (Go.Proofs.Ytdbgmcgjklmkkaa.PBan.Ban.mk t_27_a t_27_x t_27_b t_27_y) (Go.Proofs.Ytdbgmcgjklmkkaa.PBan.Ban.mk t_27_a t_27_x t_22 t_27_y) (.int .i64 t_22) lt_27 (by decide) rfl; rw [es_] at e0_; have e_ : ([(k0 * 4 + 2, .int .i64 t_22)] : List (Nat × Value)).foldl (fun xs p => xs.set p.1 p.2) (Go.Proofs.Ytdbgmcgjklmkkaa.PBan.flat l20_20) = (Go.Proofs.Ytdbgmcgjklmkkaa.PBan.flat l29_29) := (by rw [← hl29_29]; show _ = List.flatMap Go.Proofs.Ytdbgmcgjklmkkaa.PBan.Ban.cells _; rw [← e0_]; first | done | rfl); rw [← hwl29_29, ← e_]; exact Sl29_29.out.1)
      have Gl29_29 : Hid (wl20_20.grownBy wl29_29 (Value.slice (some ⟨qt_9, 0, none⟩) a.length c0).ownBlock) := Lib.hid (by rw [← hwl29_29]; exact Sl29_29.out.2)
      have HBwl29_29 := Lib.hid (Aid.grown_tr HBwl20_20.out Gl29_29.out)
      have hhl29_29 := Lib.hid hl29_29
      clear hl29_29 Sl29_29
      clear Pl20_20 Gl29_29
      replace H := let_hid H
      obtain ⟨t_31, ht_31, H⟩ := H
      replace H := idx_hid H
      obtain ⟨nt_36, yt_36, et_36, lt_36, gt_36, H⟩ := H
      obtain rfl : k0 = nt_36 := by omega
      clear et_36
      obtain ⟨t_36_a, t_36_x, t_36_b, t_36_y⟩ := yt_36
      replace H := unBan_hid H
      have hqt_36 := nl29_29.out
      obtain ⟨ab_t_36, ao_t_36, zt_36, At_36, z_t_36, ct_36_0, ct_36_1, ct_36_2, ct_36_3⟩ := Go.Proofs.Ytdbgmcgjklmkkaa.OBan.at_ (own_cells Pl29_29.out) (k := k0) (by omega)
      obtain rfl := Option.some.inj (gt_36.out.symm.trans z_t_36)
      simp only [Option.some.injEq, Addr.mk.injEq] at At_36
      obtain ⟨rfl, rfl, _⟩ := At_36
      clear z_t_36
      simp only [Nat.zero_add] at ct_36_0 ct_36_1 ct_36_2 ct_36_3
      have b0t_36 : (0 : Int) ≤ (k0 : Int) := by omega
      have b1t_36 : (k0 : Int) < ((a.length : Nat) : Int) := by omega
      have b2t_36 : ((k0 : Int)).toNat = k0 := by omega
      clear hqt_36
      replace H := let_hid H
      obtain ⟨l38_38, hl38_38, H⟩ := H
      try simp only [Int.toNat_natCast] at hl38_38
      obtain ⟨wl38_38, hwl38_38⟩ : ∃ x, (wl29_29).setCell ⟨qt_9, k0 * 4 + 3, none⟩ (.int .i64 t_31) = x := ⟨_, rfl⟩
      have z0l38_38 := Pl29_29.out.frozenAt (k0 * 4 + 3)
      have Sl38_38 := Lib.hid (own_stores [(k0 * 4 + 3, .int .i64 t_31)] Pl29_29.out)
      have nl38_38 : Hid (l38_38.length = a.length) := Lib.hid (by rw [← hl38_38, List.length_set]; exact nl29_29.out)
      have Pl38_38 : Hid (wl38_38.ownsRow b0 96 4 (.slice (some ⟨qt_9, 0, none⟩) a.length c0) a.length (Go.Proofs.Ytdbgmcgjklmkkaa.PBan.flat l38_38)) := Lib.hid (by have es_ := set_self gt_36.out; have e0_ := flat_set Go.Proofs.Ytdbgmcgjklmkkaa.PBan.Ban.cells 4 (fun _ => rfl) l29_29 (k0) 3 (Go.Proofs.Ytdbgmcgjklmkkaa.PBan.Ban.mk t_36_a t_36_x t_36_b t_36_y) (Go.Proofs.Ytdbgmcgjklmkkaa.PBan.Ban.mk t_36_a t_36_x t_36_b t_31) (.int .i64 t_31) lt_36 (by decide) rfl; rw [es_] at e0_; have e_ : ([(k0 * 4 + 3, .int .i64 t_31)] : List (Nat × Value)).foldl (fun xs p => xs.set p.1 p.2) (Go.Proofs.Ytdbgmcgjklmkkaa.PBan.flat l29_29) = (Go.Proofs.Ytdbgmcgjklmkkaa.PBan.flat l38_38) := (by rw [← hl38_38]; show _ = List.flatMap Go.Proofs.Ytdbgmcgjklmkkaa.PBan.Ban.cells _; rw [← e0_]; first | done | rfl); rw [← hwl38_38, ← e_]; exact Sl38_38.out.1)
      have Gl38_38 : Hid (wl29_29.grownBy wl38_38 (Value.slice (some ⟨qt_9, 0, none⟩) a.length c0).ownBlock) := Lib.hid (by rw [← hwl38_38]; exact Sl38_38.out.2)
      have HBwl38_38 := Lib.hid (Aid.grown_tr HBwl29_29.out Gl38_38.out)
      have hhl38_38 := Lib.hid hl38_38
      clear hl38_38 Sl38_38
      clear Pl29_29 Gl38_38
      replace H := let_hid H
      obtain ⟨t_40, ht_40, H⟩ := H
      replace H := app_hid H
      go_wp2_with fail
      clear z0l11_11 ct_9_0 ct_9_1 ct_9_2 ct_9_3 z0l20_20 ct_18_0 ct_18_1 ct_18_2 ct_18_3 z0l29_29 ct_27_0 ct_27_1 ct_27_2 ct_27_3 z0l38_38 ct_36_0 ct_36_1 ct_36_2 ct_36_3
      go_roundg m0
      case measure => omega
      case rel => exact ⟨k0 + 1, _, _, by omega, by go_num, rfl, H, HBwl38_38, Pl38_38, Lib.hid (nl38_38.out)⟩
end Go.Proofs.Ytdbgmcgjklmkkaa.GlMarkBanS

/- loop.example/g01062/laws.markKindTable as a plain function, and the contract of the program's: where the plain one has an answer, the program has it. Conditions: slices read as lists. -/
namespace Go.Proofs.Ytdbgmcgjklmkkaa.GlMarkKindTable
set_option linter.unusedVariables false
set_option linter.unusedSimpArgs false
open Go.RowKit
open Go.Proofs.Ytdbgmcgjklmkkaa.Rowed Go.Proofs.Ytdbgmcgjklmkkaa.Turn Go.Proofs.Ytdbgmcgjklmkkaa.Aid Go.Proofs.Ytdbgmcgjklmkkaa.GoP Go.Proofs.Ytdbgmcgjklmkkaa.GoM

def P (a_sizes : (List Int)) (a_bans : (List Go.Proofs.Ytdbgmcgjklmkkaa.PBan.Ban)) (k_1 : Int) : Option (Int × (List Int) × (List Go.Proofs.Ytdbgmcgjklmkkaa.PBan.Ban)) :=
  bind2 (Go.Proofs.Ytdbgmcgjklmkkaa.GlMarkIntS.P a_sizes k_1) fun (t_5 : Int) (lt_5 : (List Int)) =>
  bind2 (Go.Proofs.Ytdbgmcgjklmkkaa.GlMarkBanS.P a_bans t_5) fun (t_10 : Int) (lt_10 : (List Go.Proofs.Ytdbgmcgjklmkkaa.PBan.Ban)) =>
  some (t_10, lt_5, lt_10)

set_option maxRecDepth 100000 in
set_option maxHeartbeats 2000000 in
theorem C (a_sizes : (List Int)) (a_bans : (List Go.Proofs.Ytdbgmcgjklmkkaa.PBan.Ban)) (k_1 : Int) (A0_0 : Option Addr) (c0_0 : Nat) (A0_1 : Option Addr) (c0_1 : Nat)  (b0 : Nat) (w : World) (M0_0 : Hid (w.ownsRow b0 3 1 (.slice A0_0 a_sizes.length c0_0) a_sizes.length (Go.Proofs.Ytdbgmcgjklmkkaa.HelpInt.iv a_sizes))) (N0_0 : Hid (a_sizes.length ≤ 9223372036854775807)) (M0_1 : Hid (w.ownsRow b0 96 4 (.slice A0_1 a_bans.length c0_1) a_bans.length (Go.Proofs.Ytdbgmcgjklmkkaa.PBan.flat a_bans))) (N0_1 : Hid (a_bans.length ≤ 9223372036854775807))  (DA : Hid (Apart A0_0 A0_1)) {r : Int} {l_ : (List Int)} {m_ : (List Go.Proofs.Ytdbgmcgjklmkkaa.PBan.Ban)} (H : Hid (P a_sizes a_bans k_1 = some (r, l_, m_))) :
    Calls Try.prog 18 #[.agg #[.slice A0_0 a_sizes.length c0_0, .slice A0_1 a_bans.length c0_1], .int .i64 k_1] w (fun e w' => e = .returned (.int .i64 r) ∧ w'.ownsRow b0 3 1 (.slice A0_0 a_sizes.length c0_0) a_sizes.length (Go.Proofs.Ytdbgmcgjklmkkaa.HelpInt.iv l_) ∧ l_.length = a_sizes.length ∧ w'.ownsRow b0 96 4 (.slice A0_1 a_bans.length c0_1) a_bans.length (Go.Proofs.Ytdbgmcgjklmkkaa.PBan.flat m_) ∧ m_.length = a_bans.length ∧ Grown2 w w' A0_0 A0_1) := by
  have HB := Lib.hid (grown2_refl w A0_0 A0_1)
  unfold P at H
  have N0_0o := N0_0.out
  have N0_1o := N0_1.out
  go_enter Try.func18, Try.ntmps18
  obtain ⟨w_a_0, hw_a_0⟩ : ∃ x, w.alloc (.cells #[.slice A0_0 a_sizes.length c0_0, .slice A0_1 a_bans.length c0_1] 31) = x := ⟨_, rfl⟩
  have bw_a_0 : Below w.heap.size w w_a_0 := by rw [← hw_a_0]; exact (Below.refl _ _).alloc (Nat.le_refl _) _
  have Da_0_io0_0 := Lib.hid (apart_fresh M0_0.out)
  have Da_0_io0_1 := Lib.hid (apart_fresh M0_1.out)
  have HBw_a_0 := Lib.hid (grown2_below HB.out bw_a_0)
  replace M0_0 := Lib.hid (own_below M0_0.out bw_a_0)
  replace M0_1 := Lib.hid (own_below M0_1.out bw_a_0)
  clear bw_a_0
  have ka_0_0 : w_a_0.cell? ⟨w.heap.size, 0, none⟩ = some (.slice A0_0 a_sizes.length c0_0) := by rw [← hw_a_0]; exact box_new _ _ _ 0 _ rfl
  have ka_0_1 : w_a_0.cell? ⟨w.heap.size, 1, none⟩ = some (.slice A0_1 a_bans.length c0_1) := by rw [← hw_a_0]; exact box_new _ _ _ 1 _ rfl
  replace H := bind2_hid H
  obtain ⟨t_5, lt_5, qt_5, H⟩ := H
  go_wp2_with fail
  go_at_call 19
  refine (Go.Proofs.Ytdbgmcgjklmkkaa.GlMarkIntS.C (a_sizes) (k_1) A0_0 c0_0 b0 _   M0_0 (Lib.hid (own_max M0_0.out))   qt_5).mono ?_
  rintro e_t_5 wt_5 ⟨rfl, ot_5, nt_5, gt_5⟩
  have Pt_5 := Lib.hid ot_5
  have Gt_5 := Lib.hid gt_5
  replace nt_5 := Lib.hid nt_5
  clear ot_5 gt_5
  have HBwt_5 := Lib.hid (grown2_l HBw_a_0.out Gt_5.out)
  replace ka_0_0 := cell_other ka_0_0 Gt_5.out (Apart.symm Da_0_io0_0.out)
  replace ka_0_1 := cell_other ka_0_1 Gt_5.out (Apart.symm Da_0_io0_0.out)
  replace M0_1 := Lib.hid (own_other M0_1.out Gt_5.out DA.out)
  clear M0_0 Gt_5
  replace H := bind2_hid H
  obtain ⟨t_10, lt_10, qt_10, H⟩ := H
  go_wp2_with fail
  go_at_call 77
  refine (Go.Proofs.Ytdbgmcgjklmkkaa.GlMarkBanS.C (a_bans) (t_5) A0_1 c0_1 b0 _   M0_1 (Lib.hid (own_max M0_1.out))   qt_10).mono ?_
  rintro e_t_10 wt_10 ⟨rfl, ot_10, nt_10, gt_10⟩
  have Pt_10 := Lib.hid ot_10
  have Gt_10 := Lib.hid gt_10
  replace nt_10 := Lib.hid nt_10
  clear ot_10 gt_10
  have HBwt_10 := Lib.hid (grown2_r HBwt_5.out Gt_10.out)
  replace ka_0_0 := cell_other ka_0_0 Gt_10.out (Apart.symm Da_0_io0_1.out)
  replace ka_0_1 := cell_other ka_0_1 Gt_10.out (Apart.symm Da_0_io0_1.out)
  replace Pt_5 := Lib.hid (own_other Pt_5.out Gt_10.out (Apart.symm DA.out))
  clear M0_1 Gt_10
  cases ret_hid H
  go_wp2_with fail
  go_ret
  exact ⟨rfl, Pt_5.out, nt_5.out, Pt_10.out, nt_10.out, HBwt_10.out⟩
end Go.Proofs.Ytdbgmcgjklmkkaa.GlMarkKindTable

/- loop.example/g01062/laws.heldIntS as a plain function, and the contract of the program's: where the plain one has an answer, the program has it. Conditions: slices read as lists. -/
namespace Go.Proofs.Ytdbgmcgjklmkkaa.GlHeldIntS
set_option linter.unusedVariables false
set_option linter.unusedSimpArgs false
open Go.RowKit
open Go.Proofs.Ytdbgmcgjklmkkaa.Rowed Go.Proofs.Ytdbgmcgjklmkkaa.Turn Go.Proofs.Ytdbgmcgjklmkkaa.Aid Go.Proofs.Ytdbgmcgjklmkkaa.GoP Go.Proofs.Ytdbgmcgjklmkkaa.GoM

def l0 (a : (List Int)) (k0 : Nat) (s : Int) (nx0 bk0 : Int → Option (Int)) : Option (Int) :=
  letK s fun k_1l0 =>
  Option.bind (idx a (k0 : Int)) fun (yt_8 : Int) =>
  letK (yt_8 != k_1l0) fun (t_11 : Bool) =>
  iteK t_11
  (some (-1))
  (letK (IntKind.i64.wrap (k_1l0 + 1)) fun (t_14 : Int) =>
  appK nx0 (t_14))

def e0  (s : Int) : Option (Int) :=
  letK s fun k_1l0 =>
  some k_1l0

def P (a : (List Int)) (k_1 : Int) : Option (Int) :=
  cntK (l0 a) (a.length) 0 (k_1) (e0 )

set_option maxRecDepth 100000 in
set_option maxHeartbeats 2000000 in
theorem C (a : (List Int)) (k_1 : Int) (A0 : Option Addr) (c0 : Nat)  (w : World) (M0 : Hid (Cells w 1 A0 a.length (Go.Proofs.Ytdbgmcgjklmkkaa.HelpInt.iv a))) (N0 : Hid (a.length ≤ 9223372036854775807))  {r : Int} (H : Hid (P a k_1 = some r)) :
    Calls Try.prog 20 #[.slice A0 a.length c0, .int .i64 k_1] w (Gives (.int .i64 r) w) := by
  have HB := Lib.hid (Below.refl w.heap.size w)
  unfold P at H
  have N0o := N0.out
  go_enter Try.func20, Try.ntmps20
  go_wp2_with fail
  go_loopg [5, 1] (a.length) (fun m_ v5_ v1_ wr => ∃ (k0 : Nat) (k_1l0 : Int), k0 + m_ = a.length ∧ v5_ = .int .i64 (k0 : Int) ∧ v1_ = .int .i64 k_1l0 ∧ Hid (cntK (l0 a) m_ k0 (k_1l0) (e0 ) = some r) ∧ Hid (Below w.heap.size w wr))
  case atStart => exact ⟨0, _, by omega, rfl, rfl, H, HB⟩
  case round =>
    obtain ⟨k0, k_1l0, hkm0, rfl, rfl, H, HBwr0⟩ := hrel
    rename World => wr0
    cases gk with
    | zero =>
      obtain rfl : k0 = a.length := by omega
      have hc0 : decide (((a.length : Nat) : Int) < ((a.length : Nat) : Int)) = false := by simp
      replace H := cnt_zero H
      unfold e0 at H
      replace H := let_hid H
      obtain ⟨_, rfl, H⟩ := H
      obtain rfl := ret_hid H
      go_wp2_with fail
      go_ret
      exact ⟨rfl, HBwr0.out⟩
    | succ m0 =>
      have hlt0 : k0 < a.length := by omega
      have hc0 : decide ((k0 : Int) < ((a.length : Nat) : Int)) = true := by simp; omega
      replace H := cnt_succ H
      unfold l0 at H
      replace H := let_hid H
      obtain ⟨_, rfl, H⟩ := H
      replace H := idx_hid H
      obtain ⟨nt_8, yt_8, et_8, lt_8, gt_8, H⟩ := H
      obtain rfl : k0 = nt_8 := by omega
      clear et_8
      obtain ⟨ab_t_8, ao_t_8, zt_8, At_8, z_t_8, ct_8_0⟩ := Go.Proofs.Ytdbgmcgjklmkkaa.HelpInt.Ints.at_ M0.out lt_8
      obtain rfl := Option.some.inj (gt_8.out.symm.trans z_t_8)
      subst At_8
      have ltt_8 := cell_lt ct_8_0
      replace ct_8_0 := cell_below HBwr0.out ct_8_0
      clear z_t_8
      have b0t_8 : (0 : Int) ≤ (k0 : Int) := by omega
      have b1t_8 : (k0 : Int) < ((a.length : Nat) : Int) := by omega
      have b2t_8 : ((k0 : Int)).toNat = k0 := by omega
      replace H := let_hid H
      obtain ⟨t_11, ht_11, H⟩ := H
      cases t_11 with
      | false =>
        replace H := ite_f H
        replace H := let_hid H
        obtain ⟨t_14, ht_14, H⟩ := H
        replace H := app_hid H
        go_wp2_with fail
        go_roundg m0
        case measure => omega
        case rel => exact ⟨k0 + 1, _, by omega, by go_num, rfl, H, HBwr0⟩
      | true =>
        replace H := ite_t H
        obtain rfl := ret_hid H
        go_wp2_with fail
        go_ret
        exact ⟨rfl, HBwr0.out⟩
end Go.Proofs.Ytdbgmcgjklmkkaa.GlHeldIntS

/- loop.example/g01062/laws.FnExactNeedlessBans as a plain function, and the contract of the program's: where the plain one has an answer, the program has it. Conditions: slices read as lists. -/
namespace Go.Proofs.Ytdbgmcgjklmkkaa.GlFnExactNeedlessBans
set_option linter.unusedVariables false
set_option linter.unusedSimpArgs false
open Go.RowKit
open Go.Proofs.Ytdbgmcgjklmkkaa.Rowed Go.Proofs.Ytdbgmcgjklmkkaa.Turn Go.Proofs.Ytdbgmcgjklmkkaa.Aid Go.Proofs.Ytdbgmcgjklmkkaa.GoP Go.Proofs.Ytdbgmcgjklmkkaa.GoM

def P (fuel : Nat) (aT_sizes : (List Int)) (aT_bans : (List Go.Proofs.Ytdbgmcgjklmkkaa.PBan.Ban)) : Option (Bool) :=
  Option.bind (Go.Proofs.Ytdbgmcgjklmkkaa.GlSzKindTable.P aT_sizes aT_bans 1048576) fun (t_5 : Int) =>
  letK (decide (t_5 < 0)) fun (t_8 : Bool) =>
  iteK t_8
  (some true)
  (Option.bind (Go.Proofs.Ytdbgmcgjklmkkaa.GlToKindTable.P aT_sizes aT_bans) fun (t_11 : Go.Proofs.Ytdbgmcgjklmkkaa.PKindTable.KindTable) =>
  unKindTable t_11 fun (t_11_sizes : (List Int)) (t_11_bans : (List Go.Proofs.Ytdbgmcgjklmkkaa.PBan.Ban)) =>
  bind2 (Go.Proofs.Ytdbgmcgjklmkkaa.GsNeedlessBans.P fuel t_11_sizes t_11_bans) fun (t_12a : (List Int)) (t_12b : Bool) =>
  Option.bind (Go.Proofs.Ytdbgmcgjklmkkaa.GlToKindTable.P aT_sizes aT_bans) fun (t_19 : Go.Proofs.Ytdbgmcgjklmkkaa.PKindTable.KindTable) =>
  unKindTable t_19 fun (t_19_sizes : (List Int)) (t_19_bans : (List Go.Proofs.Ytdbgmcgjklmkkaa.PBan.Ban)) =>
  bind2 (Go.Proofs.Ytdbgmcgjklmkkaa.GiNeedlessBans.P fuel t_19_sizes t_19_bans) fun (t_23a : (List Int)) (t_23b : Bool) =>
  Option.bind (Go.Proofs.Ytdbgmcgjklmkkaa.GlEqIntS.P t_23a t_12a) fun (t_31 : Bool) =>
  letK (!t_31) fun (t_32 : Bool) =>
  joinK (fun (t_37 : Bool) =>
  iteK t_37
  (some false)
  (Option.bind (Go.Proofs.Ytdbgmcgjklmkkaa.GlToKindTable.P aT_sizes aT_bans) fun (t_41 : Go.Proofs.Ytdbgmcgjklmkkaa.PKindTable.KindTable) =>
  unKindTable t_41 fun (t_41_sizes : (List Int)) (t_41_bans : (List Go.Proofs.Ytdbgmcgjklmkkaa.PBan.Ban)) =>
  Option.bind (Go.Proofs.Ytdbgmcgjklmkkaa.GlEqKindTable.P t_19_sizes t_19_bans t_41_sizes t_41_bans) fun (t_42 : Bool) =>
  letK (!t_42) fun (t_43 : Bool) =>
  iteK t_43
  (some false)
  (bind3 (Go.Proofs.Ytdbgmcgjklmkkaa.GlMarkKindTable.P t_19_sizes t_19_bans 1) fun (t_48 : Int) (lt_48 : (List Int)) (mt_48 : (List Go.Proofs.Ytdbgmcgjklmkkaa.PBan.Ban)) =>
  letK (decide (t_48 < 0)) fun (t_51 : Bool) =>
  joinK (fun (t_57 : Bool) =>
  joinK (fun (t_62 : Bool) =>
  iteK t_62
  (some false)
  (bind2 (Go.Proofs.Ytdbgmcgjklmkkaa.GlMarkIntS.P t_23a 1) fun (t_67 : Int) (lt_67 : (List Int)) =>
  Option.bind (Go.Proofs.Ytdbgmcgjklmkkaa.GlHeldIntS.P lt_67 1) fun (t_72 : Int) =>
  letK (decide (t_72 < 0)) fun (t_75 : Bool) =>
  iteK t_75
  (some false)
  (letK (t_72 != t_67) fun (t_79 : Bool) =>
  iteK t_79
  (some false)
  (Option.bind (Go.Proofs.Ytdbgmcgjklmkkaa.GlToKindTable.P aT_sizes aT_bans) fun (t_82 : Go.Proofs.Ytdbgmcgjklmkkaa.PKindTable.KindTable) =>
  unKindTable t_82 fun (t_82_sizes : (List Int)) (t_82_bans : (List Go.Proofs.Ytdbgmcgjklmkkaa.PBan.Ban)) =>
  bind2 (Go.Proofs.Ytdbgmcgjklmkkaa.GiNeedlessBans.P fuel t_82_sizes t_82_bans) fun (t_83a : (List Int)) (t_83b : Bool) =>
  Option.bind (Go.Proofs.Ytdbgmcgjklmkkaa.GlEqIntS.P t_83a t_12a) fun (t_91 : Bool) =>
  letK (!t_91) fun (t_92 : Bool) =>
  joinK (fun (t_97 : Bool) =>
  iteK t_97
  (some false)
  (Option.bind (Go.Proofs.Ytdbgmcgjklmkkaa.GlHeldIntS.P lt_67 1) fun (t_102 : Int) =>
  letK (decide (t_102 < 0)) fun (t_105 : Bool) =>
  iteK t_105
  (some false)
  (letK (t_102 != t_67) fun (t_109 : Bool) =>
  iteK t_109
  (some false)
  (some true)))) fun jt_97 => iteK t_92 (appK jt_97 true) (letK (!(t_83b == t_12b)) fun (t_96 : Bool) =>
  appK jt_97 t_96))))) fun jt_62 => iteK t_57 (appK jt_62 true) (letK (!(t_23b == t_12b)) fun (t_61 : Bool) =>
  appK jt_62 t_61)) fun jt_57 => iteK t_51 (appK jt_57 true) (Option.bind (Go.Proofs.Ytdbgmcgjklmkkaa.GlEqIntS.P t_23a t_12a) fun (t_55 : Bool) =>
  letK (!t_55) fun (t_56 : Bool) =>
  appK jt_57 t_56)))) fun jt_37 => iteK t_32 (appK jt_37 true) (letK (!(t_23b == t_12b)) fun (t_36 : Bool) =>
  appK jt_37 t_36))

set_option maxRecDepth 100000 in
set_option maxHeartbeats 2000000 in
theorem C (fuel : Nat) (aT_sizes : (List Int)) (aT_bans : (List Go.Proofs.Ytdbgmcgjklmkkaa.PBan.Ban)) (A0_0 : Option Addr) (c0_0 : Nat) (A0_1 : Option Addr) (c0_1 : Nat)  (w : World) (M0_0 : Hid (Cells w 1 A0_0 aT_sizes.length (Go.Proofs.Ytdbgmcgjklmkkaa.HelpInt.iv aT_sizes))) (N0_0 : Hid (aT_sizes.length ≤ 9223372036854775807)) (M0_1 : Hid (Cells w 4 A0_1 aT_bans.length (Go.Proofs.Ytdbgmcgjklmkkaa.PBan.flat aT_bans))) (N0_1 : Hid (aT_bans.length ≤ 9223372036854775807))  {r : Bool} (H : Hid (P fuel aT_sizes aT_bans = some r)) :
    Calls Try.prog 3 #[.agg #[.slice A0_0 aT_sizes.length c0_0, .slice A0_1 aT_bans.length c0_1]] w (Gives (.bool r) w) := by
  have HB := Lib.hid (Below.refl w.heap.size w)
  unfold P at H
  have N0_0o := N0_0.out
  have N0_1o := N0_1.out
  go_enter Try.func3, Try.ntmps3
  obtain ⟨w_aT_0, hw_aT_0⟩ : ∃ x, w.alloc (.cells #[.slice A0_0 aT_sizes.length c0_0, .slice A0_1 aT_bans.length c0_1] 25) = x := ⟨_, rfl⟩
  have bw_aT_0 : Below w.heap.size w w_aT_0 := by rw [← hw_aT_0]; exact (Below.refl _ _).alloc (Nat.le_refl _) _
  have HBw_aT_0 := Lib.hid (Below.step HB.out bw_aT_0)
  clear bw_aT_0
  have kaT_0_0 : w_aT_0.cell? ⟨w.heap.size, 0, none⟩ = some (.slice A0_0 aT_sizes.length c0_0) := by rw [← hw_aT_0]; exact box_new _ _ _ 0 _ rfl
  have kaT_0_1 : w_aT_0.cell? ⟨w.heap.size, 1, none⟩ = some (.slice A0_1 aT_bans.length c0_1) := by rw [← hw_aT_0]; exact box_new _ _ _ 1 _ rfl
  replace H := bind_hid H
  obtain ⟨t_5, qt_5, H⟩ := H
  go_wp2_with fail
  go_at_call 12
  refine (Go.Proofs.Ytdbgmcgjklmkkaa.GlSzKindTable.C (aT_sizes) (aT_bans) (1048576) A0_0 c0_0 A0_1 c0_1 _   (Lib.hid (Cells.below M0_0.out HBw_aT_0.out)) N0_0 (Lib.hid (Cells.below M0_1.out HBw_aT_0.out)) N0_1 qt_5).mono ?_
  rintro e_t_5 wt_5 ⟨rfl, bt_5⟩
  have HBwt_5 := Lib.hid (Below.step HBw_aT_0.out bt_5)
  replace kaT_0_0 := cell_below bt_5 kaT_0_0
  replace kaT_0_1 := cell_below bt_5 kaT_0_1
  clear bt_5
  replace H := let_hid H
  obtain ⟨t_8, ht_8, H⟩ := H
  cases t_8 with
  | false =>
    replace H := ite_f H
    replace H := bind_hid H
    obtain ⟨t_11, qt_11, H⟩ := H
    obtain ⟨t_11_sizes, t_11_bans⟩ := t_11
    replace H := unKindTable_hid H
    go_wp2_with fail
    go_at_call 14
    refine (Go.Proofs.Ytdbgmcgjklmkkaa.GlToKindTable.C (aT_sizes) (aT_bans) A0_0 c0_0 A0_1 c0_1 _   (Lib.hid (Cells.below M0_0.out HBwt_5.out)) N0_0 (Lib.hid (Cells.below M0_1.out HBwt_5.out)) N0_1 qt_11).mono ?_
    rintro e_t_11 wt_11 ⟨At_11_sizes, ct_11_sizes, At_11_bans, ct_11_bans, rfl, ot_11_sizes, ot_11_bans, d0_1, bt_11⟩
    have Dt_11_sizes_aT_0 := Lib.hid (apart_callbox ot_11_sizes kaT_0_0)
    have Dt_11_bans_aT_0 := Lib.hid (apart_callbox ot_11_bans kaT_0_0)
    have Dt_11_sizes_t_11_bans := Lib.hid d0_1
    have Ot_11_sizes := Lib.hid (own_lower ot_11_sizes HBwt_5.out.size)
    clear ot_11_sizes
    have Ot_11_bans := Lib.hid (own_lower ot_11_bans HBwt_5.out.size)
    clear ot_11_bans
    have HBwt_11 := Lib.hid (Below.step HBwt_5.out bt_11)
    replace kaT_0_0 := cell_below bt_11 kaT_0_0
    replace kaT_0_1 := cell_below bt_11 kaT_0_1
    clear bt_11
    replace H := bind2_hid H
    obtain ⟨t_12a, t_12b, qt_12, H⟩ := H
    go_wp2_with fail
    go_at_call 13
    refine (Go.Proofs.Ytdbgmcgjklmkkaa.GsNeedlessBans.C fuel (t_11_sizes) (t_11_bans) At_11_sizes ct_11_sizes At_11_bans ct_11_bans _   (Lib.hid (own_cells Ot_11_sizes.out)) (Lib.hid (own_max Ot_11_sizes.out)) (Lib.hid (own_room Ot_11_sizes.out)) (Lib.hid (own_cells Ot_11_bans.out)) (Lib.hid (own_max Ot_11_bans.out)) (Lib.hid (own_room Ot_11_bans.out)) qt_12).mono ?_
    rintro e_t_12 wt_12 ⟨At_12a, ct_12a, rfl, ot_12a, bt_12⟩
    have Dt_12a_t_11_sizes := Lib.hid (apart_call ot_12a Ot_11_sizes.out)
    have Dt_12a_t_11_bans := Lib.hid (apart_call ot_12a Ot_11_bans.out)
    have Dt_12a_aT_0 := Lib.hid (apart_callbox ot_12a kaT_0_0)
    have Ot_12a := Lib.hid (own_lower ot_12a HBwt_11.out.size)
    clear ot_12a
    have HBwt_12 := Lib.hid (Below.step HBwt_11.out bt_12)
    replace kaT_0_0 := cell_below bt_12 kaT_0_0
    replace kaT_0_1 := cell_below bt_12 kaT_0_1
    replace Ot_11_sizes := Lib.hid (own_below Ot_11_sizes.out bt_12)
    replace Ot_11_bans := Lib.hid (own_below Ot_11_bans.out bt_12)
    clear bt_12
    replace H := bind_hid H
    obtain ⟨t_19, qt_19, H⟩ := H
    obtain ⟨t_19_sizes, t_19_bans⟩ := t_19
    replace H := unKindTable_hid H
    go_wp2_with fail
    go_at_call 14
    refine (Go.Proofs.Ytdbgmcgjklmkkaa.GlToKindTable.C (aT_sizes) (aT_bans) A0_0 c0_0 A0_1 c0_1 _   (Lib.hid (Cells.below M0_0.out HBwt_12.out)) N0_0 (Lib.hid (Cells.below M0_1.out HBwt_12.out)) N0_1 qt_19).mono ?_
    rintro e_t_19 wt_19 ⟨At_19_sizes, ct_19_sizes, At_19_bans, ct_19_bans, rfl, ot_19_sizes, ot_19_bans, d0_1, bt_19⟩
    have Dt_19_sizes_t_11_sizes := Lib.hid (apart_call ot_19_sizes Ot_11_sizes.out)
    have Dt_19_sizes_t_11_bans := Lib.hid (apart_call ot_19_sizes Ot_11_bans.out)
    have Dt_19_sizes_t_12a := Lib.hid (apart_call ot_19_sizes Ot_12a.out)
    have Dt_19_sizes_aT_0 := Lib.hid (apart_callbox ot_19_sizes kaT_0_0)
    have Dt_19_bans_t_11_sizes := Lib.hid (apart_call ot_19_bans Ot_11_sizes.out)
    have Dt_19_bans_t_11_bans := Lib.hid (apart_call ot_19_bans Ot_11_bans.out)
    have Dt_19_bans_t_12a := Lib.hid (apart_call ot_19_bans Ot_12a.out)
    have Dt_19_bans_aT_0 := Lib.hid (apart_callbox ot_19_bans kaT_0_0)
    have Dt_19_sizes_t_19_bans := Lib.hid d0_1
    have Ot_19_sizes := Lib.hid (own_lower ot_19_sizes HBwt_12.out.size)
    clear ot_19_sizes
    have Ot_19_bans := Lib.hid (own_lower ot_19_bans HBwt_12.out.size)
    clear ot_19_bans
    have HBwt_19 := Lib.hid (Below.step HBwt_12.out bt_19)
    replace kaT_0_0 := cell_below bt_19 kaT_0_0
    replace kaT_0_1 := cell_below bt_19 kaT_0_1
    replace Ot_11_sizes := Lib.hid (own_below Ot_11_sizes.out bt_19)
    replace Ot_11_bans := Lib.hid (own_below Ot_11_bans.out bt_19)
    replace Ot_12a := Lib.hid (own_below Ot_12a.out bt_19)
    clear bt_19
    obtain ⟨w_x0_20, hw_x0_20⟩ : ∃ x, wt_19.alloc (.cells #[.slice At_19_sizes t_19_sizes.length ct_19_sizes, .slice At_19_bans t_19_bans.length ct_19_bans] 31) = x := ⟨_, rfl⟩
    have bw_x0_20 : Below wt_19.heap.size wt_19 w_x0_20 := by rw [← hw_x0_20]; exact (Below.refl _ _).alloc (Nat.le_refl _) _
    have Dx0_20_t_11_sizes := Lib.hid (apart_fresh Ot_11_sizes.out)
    have Dx0_20_t_11_bans := Lib.hid (apart_fresh Ot_11_bans.out)
    have Dx0_20_t_12a := Lib.hid (apart_fresh Ot_12a.out)
    have Dx0_20_t_19_sizes := Lib.hid (apart_fresh Ot_19_sizes.out)
    have Dx0_20_t_19_bans := Lib.hid (apart_fresh Ot_19_bans.out)
    have HBw_x0_20 := Lib.hid (Below.step HBwt_19.out bw_x0_20)
    have kaT_0_0__294 := cell_below bw_x0_20 kaT_0_0
    have kaT_0_1__295 := cell_below bw_x0_20 kaT_0_1
    replace Ot_11_sizes := Lib.hid (own_below Ot_11_sizes.out bw_x0_20)
    replace Ot_11_bans := Lib.hid (own_below Ot_11_bans.out bw_x0_20)
    replace Ot_12a := Lib.hid (own_below Ot_12a.out bw_x0_20)
    replace Ot_19_sizes := Lib.hid (own_below Ot_19_sizes.out bw_x0_20)
    replace Ot_19_bans := Lib.hid (own_below Ot_19_bans.out bw_x0_20)
    clear bw_x0_20
    have kx0_20_0 : w_x0_20.cell? ⟨wt_19.heap.size, 0, none⟩ = some (.slice At_19_sizes t_19_sizes.length ct_19_sizes) := by rw [← hw_x0_20]; exact box_new _ _ _ 0 _ rfl
    have kx0_20_1 : w_x0_20.cell? ⟨wt_19.heap.size, 1, none⟩ = some (.slice At_19_bans t_19_bans.length ct_19_bans) := by rw [← hw_x0_20]; exact box_new _ _ _ 1 _ rfl
    replace H := bind2_hid H
    obtain ⟨t_23a, t_23b, qt_23, H⟩ := H
    go_wp2_with fail
    clear kaT_0_0 kaT_0_1
    go_at_call 15
    refine (Go.Proofs.Ytdbgmcgjklmkkaa.GiNeedlessBans.C fuel (t_19_sizes) (t_19_bans) At_19_sizes ct_19_sizes At_19_bans ct_19_bans _   (Lib.hid (own_cells Ot_19_sizes.out)) (Lib.hid (own_max Ot_19_sizes.out)) (Lib.hid (own_room Ot_19_sizes.out)) (Lib.hid (own_cells Ot_19_bans.out)) (Lib.hid (own_max Ot_19_bans.out)) (Lib.hid (own_room Ot_19_bans.out)) qt_23).mono ?_
    rintro e_t_23 wt_23 ⟨At_23a, ct_23a, rfl, ot_23a, bt_23⟩
    have Dt_23a_t_11_sizes := Lib.hid (apart_call ot_23a Ot_11_sizes.out)
    have Dt_23a_t_11_bans := Lib.hid (apart_call ot_23a Ot_11_bans.out)
    have Dt_23a_t_12a := Lib.hid (apart_call ot_23a Ot_12a.out)
    have Dt_23a_t_19_sizes := Lib.hid (apart_call ot_23a Ot_19_sizes.out)
    have Dt_23a_t_19_bans := Lib.hid (apart_call ot_23a Ot_19_bans.out)
    have Dt_23a_aT_0 := Lib.hid (apart_callbox ot_23a kaT_0_0__294)
    have Dt_23a_x0_20 := Lib.hid (apart_callbox ot_23a kx0_20_0)
    have Ot_23a := Lib.hid (own_lower ot_23a HBw_x0_20.out.size)
    clear ot_23a
    have HBwt_23 := Lib.hid (Below.step HBw_x0_20.out bt_23)
    replace kaT_0_0__294 := cell_below bt_23 kaT_0_0__294
    replace kaT_0_1__295 := cell_below bt_23 kaT_0_1__295
    replace kx0_20_0 := cell_below bt_23 kx0_20_0
    replace kx0_20_1 := cell_below bt_23 kx0_20_1
    replace Ot_11_sizes := Lib.hid (own_below Ot_11_sizes.out bt_23)
    replace Ot_11_bans := Lib.hid (own_below Ot_11_bans.out bt_23)
    replace Ot_12a := Lib.hid (own_below Ot_12a.out bt_23)
    replace Ot_19_sizes := Lib.hid (own_below Ot_19_sizes.out bt_23)
    replace Ot_19_bans := Lib.hid (own_below Ot_19_bans.out bt_23)
    clear bt_23
    replace H := bind_hid H
    obtain ⟨t_31, qt_31, H⟩ := H
    go_wp2_with fail
    go_at_call 16
    refine (Go.Proofs.Ytdbgmcgjklmkkaa.GlEqIntS.C (t_23a) (t_12a) At_23a ct_23a At_12a ct_12a _   (Lib.hid (own_cells Ot_23a.out)) (Lib.hid (own_max Ot_23a.out)) (Lib.hid (own_cells Ot_12a.out)) (Lib.hid (own_max Ot_12a.out)) qt_31).mono ?_
    rintro e_t_31 wt_31 ⟨rfl, bt_31⟩
    have HBwt_31 := Lib.hid (Below.step HBwt_23.out bt_31)
    replace kaT_0_0__294 := cell_below bt_31 kaT_0_0__294
    replace kaT_0_1__295 := cell_below bt_31 kaT_0_1__295
    replace kx0_20_0 := cell_below bt_31 kx0_20_0
    replace kx0_20_1 := cell_below bt_31 kx0_20_1
    replace Ot_11_sizes := Lib.hid (own_below Ot_11_sizes.out bt_31)
    replace Ot_11_bans := Lib.hid (own_below Ot_11_bans.out bt_31)
    replace Ot_12a := Lib.hid (own_below Ot_12a.out bt_31)
    replace Ot_19_sizes := Lib.hid (own_below Ot_19_sizes.out bt_31)
    replace Ot_19_bans := Lib.hid (own_below Ot_19_bans.out bt_31)
    replace Ot_23a := Lib.hid (own_below Ot_23a.out bt_31)
    clear bt_31
    cases t_31 with
    | false =>
      replace H := let_hid H
      obtain ⟨t_32, ht_32, H⟩ := H
      obtain rfl : t_32 = true := ht_32.symm
      replace H := join_hid H
      replace H := ite_t H
      replace H := app_hid H
      replace H := ite_t H
      obtain rfl := ret_hid H
      go_wp2_with fail
      go_ret
      exact ⟨rfl, HBwt_31.out⟩
    | true =>
      replace H := let_hid H
      obtain ⟨t_32, ht_32, H⟩ := H
      obtain rfl : t_32 = false := ht_32.symm
      replace H := join_hid H
      replace H := ite_f H
      replace H := let_hid H
      obtain ⟨t_36, ht_36, H⟩ := H
      replace H := app_hid H
      cases t_36 with
      | false =>
        replace H := ite_f H
        go_wp2_with fail
        have bd10 : Below wt_31.heap.size wt_31 wt_31.drew := (Below.refl _ _).drew
        have HBwt_31.drew := Lib.hid (Below.step HBwt_31.out bd10)
        replace kaT_0_0__294 := cell_below bd10 kaT_0_0__294
        replace kaT_0_1__295 := cell_below bd10 kaT_0_1__295
        replace kx0_20_0 := cell_below bd10 kx0_20_0
        replace kx0_20_1 := cell_below bd10 kx0_20_1
        replace Ot_11_sizes := Lib.hid (own_below Ot_11_sizes.out bd10)
        replace Ot_11_bans := Lib.hid (own_below Ot_11_bans.out bd10)
        replace Ot_12a := Lib.hid (own_below Ot_12a.out bd10)
        replace Ot_19_sizes := Lib.hid (own_below Ot_19_sizes.out bd10)
        replace Ot_19_bans := Lib.hid (own_below Ot_19_bans.out bd10)
        replace Ot_23a := Lib.hid (own_below Ot_23a.out bd10)
        clear bd10
        replace H := bind_hid H
        obtain ⟨t_41, qt_41, H⟩ := H
        obtain ⟨t_41_sizes, t_41_bans⟩ := t_41
        replace H := unKindTable_hid H
        replace H := bind_hid H
        obtain ⟨t_42, qt_42, H⟩ := H
        cases t_42 with
        | false =>
          replace H := let_hid H
          obtain ⟨t_43, ht_43, H⟩ := H
          obtain rfl : t_43 = true := ht_43.symm
          go_region_held3 (fun w' => w'.cell? ⟨w.heap.size, 0, none⟩ = some (.slice A0_0 aT_sizes.length c0_0) ∧ w'.cell? ⟨w.heap.size, 1, none⟩ = some (.slice A0_1 aT_bans.length c0_1) ∧ w'.cell? ⟨wt_19.heap.size, 0, none⟩ = some (.slice At_19_sizes t_19_sizes.length ct_19_sizes) ∧ w'.cell? ⟨wt_19.heap.size, 1, none⟩ = some (.slice At_19_bans t_19_bans.length ct_19_bans)) (first | exact ⟨kaT_0_0__294, kaT_0_1__295, kx0_20_0, kx0_20_1⟩)
              (first
                | (go_at_call 14
                   refine (Go.Proofs.Ytdbgmcgjklmkkaa.GlToKindTable.C (aT_sizes) (aT_bans) A0_0 c0_0 A0_1 c0_1 _   (Lib.hid (Cells.below M0_0.out HBwt_31.drew.out)) N0_0 (Lib.hid (Cells.below M0_1.out HBwt_31.drew.out)) N0_1 qt_41).mono ?_
                   rintro e_t_41 wt_41 ⟨At_41_sizes, ct_41_sizes, At_41_bans, ct_41_bans, rfl, ot_41_sizes, ot_41_bans, d0_1, bt_41⟩
                   have Dt_41_sizes_t_11_sizes := Lib.hid (apart_call ot_41_sizes Ot_11_sizes.out)
                   have Dt_41_sizes_t_11_bans := Lib.hid (apart_call ot_41_sizes Ot_11_bans.out)
                   have Dt_41_sizes_t_12a := Lib.hid (apart_call ot_41_sizes Ot_12a.out)
                   have Dt_41_sizes_t_19_sizes := Lib.hid (apart_call ot_41_sizes Ot_19_sizes.out)
                   have Dt_41_sizes_t_19_bans := Lib.hid (apart_call ot_41_sizes Ot_19_bans.out)
                   have Dt_41_sizes_t_23a := Lib.hid (apart_call ot_41_sizes Ot_23a.out)
                   have Dt_41_sizes_aT_0 := Lib.hid (apart_callbox ot_41_sizes kaT_0_0__294)
                   have Dt_41_sizes_x0_20 := Lib.hid (apart_callbox ot_41_sizes kx0_20_0)
                   have Dt_41_bans_t_11_sizes := Lib.hid (apart_call ot_41_bans Ot_11_sizes.out)
                   have Dt_41_bans_t_11_bans := Lib.hid (apart_call ot_41_bans Ot_11_bans.out)
                   have Dt_41_bans_t_12a := Lib.hid (apart_call ot_41_bans Ot_12a.out)
                   have Dt_41_bans_t_19_sizes := Lib.hid (apart_call ot_41_bans Ot_19_sizes.out)
                   have Dt_41_bans_t_19_bans := Lib.hid (apart_call ot_41_bans Ot_19_bans.out)
                   have Dt_41_bans_t_23a := Lib.hid (apart_call ot_41_bans Ot_23a.out)
                   have Dt_41_bans_aT_0 := Lib.hid (apart_callbox ot_41_bans kaT_0_0__294)
                   have Dt_41_bans_x0_20 := Lib.hid (apart_callbox ot_41_bans kx0_20_0)
                   have Dt_41_sizes_t_41_bans := Lib.hid d0_1
                   have Ot_41_sizes := Lib.hid (own_lower ot_41_sizes HBwt_31.drew.out.size)
                   clear ot_41_sizes
                   have Ot_41_bans := Lib.hid (own_lower ot_41_bans HBwt_31.drew.out.size)
                   clear ot_41_bans
                   have HBwt_41 := Lib.hid (Below.step HBwt_31.drew.out bt_41)
                   replace kaT_0_0__294 := cell_below bt_41 kaT_0_0__294
                   replace kaT_0_1__295 := cell_below bt_41 kaT_0_1__295
                   replace kx0_20_0 := cell_below bt_41 kx0_20_0
                   replace kx0_20_1 := cell_below bt_41 kx0_20_1
                   replace Ot_11_sizes := Lib.hid (own_below Ot_11_sizes.out bt_41)
                   replace Ot_11_bans := Lib.hid (own_below Ot_11_bans.out bt_41)
                   replace Ot_12a := Lib.hid (own_below Ot_12a.out bt_41)
                   replace Ot_19_sizes := Lib.hid (own_below Ot_19_sizes.out bt_41)
                   replace Ot_19_bans := Lib.hid (own_below Ot_19_bans.out bt_41)
                   replace Ot_23a := Lib.hid (own_below Ot_23a.out bt_41)
                   clear bt_41
                   clear qt_41)
                | (go_at_call 17
                   refine (Go.Proofs.Ytdbgmcgjklmkkaa.GlEqKindTable.C (t_19_sizes) (t_19_bans) (t_41_sizes) (t_41_bans) At_19_sizes ct_19_sizes At_19_bans ct_19_bans At_41_sizes ct_41_sizes At_41_bans ct_41_bans _   (Lib.hid (own_cells Ot_19_sizes.out)) (Lib.hid (own_max Ot_19_sizes.out)) (Lib.hid (own_cells Ot_19_bans.out)) (Lib.hid (own_max Ot_19_bans.out)) (Lib.hid (own_cells Ot_41_sizes.out)) (Lib.hid (own_max Ot_41_sizes.out)) (Lib.hid (own_cells Ot_41_bans.out)) (Lib.hid (own_max Ot_41_bans.out)) qt_42).mono ?_
                   rintro e_t_42 wt_42 ⟨rfl, bt_42⟩
                   have HBwt_42 := Lib.hid (Below.step HBwt_41.out bt_42)
                   replace kaT_0_0__294 := cell_below bt_42 kaT_0_0__294
                   replace kaT_0_1__295 := cell_below bt_42 kaT_0_1__295
                   replace kx0_20_0 := cell_below bt_42 kx0_20_0
                   replace kx0_20_1 := cell_below bt_42 kx0_20_1
                   replace Ot_11_sizes := Lib.hid (own_below Ot_11_sizes.out bt_42)
                   replace Ot_11_bans := Lib.hid (own_below Ot_11_bans.out bt_42)
                   replace Ot_12a := Lib.hid (own_below Ot_12a.out bt_42)
                   replace Ot_19_sizes := Lib.hid (own_below Ot_19_sizes.out bt_42)
                   replace Ot_19_bans := Lib.hid (own_below Ot_19_bans.out bt_42)
                   replace Ot_23a := Lib.hid (own_below Ot_23a.out bt_42)
                   replace Ot_41_sizes := Lib.hid (own_below Ot_41_sizes.out bt_42)
                   replace Ot_41_bans := Lib.hid (own_below Ot_41_bans.out bt_42)
                   clear bt_42
                   clear qt_42))
          replace H := ite_t H
          obtain rfl := ret_hid H
          go_wp2_with fail
          go_ret
          exact ⟨rfl, HBwt_42.out⟩
        | true =>
          replace H := let_hid H
          obtain ⟨t_43, ht_43, H⟩ := H
          obtain rfl : t_43 = false := ht_43.symm
          go_region_held3 (fun w' => w'.cell? ⟨w.heap.size, 0, none⟩ = some (.slice A0_0 aT_sizes.length c0_0) ∧ w'.cell? ⟨w.heap.size, 1, none⟩ = some (.slice A0_1 aT_bans.length c0_1) ∧ w'.cell? ⟨wt_19.heap.size, 0, none⟩ = some (.slice At_19_sizes t_19_sizes.length ct_19_sizes) ∧ w'.cell? ⟨wt_19.heap.size, 1, none⟩ = some (.slice At_19_bans t_19_bans.length ct_19_bans)) (first | exact ⟨kaT_0_0__294, kaT_0_1__295, kx0_20_0, kx0_20_1⟩)
              (first
                | (go_at_call 14
                   refine (Go.Proofs.Ytdbgmcgjklmkkaa.GlToKindTable.C (aT_sizes) (aT_bans) A0_0 c0_0 A0_1 c0_1 _   (Lib.hid (Cells.below M0_0.out HBwt_31.drew.out)) N0_0 (Lib.hid (Cells.below M0_1.out HBwt_31.drew.out)) N0_1 qt_41).mono ?_
                   rintro e_t_41 wt_41 ⟨At_41_sizes, ct_41_sizes, At_41_bans, ct_41_bans, rfl, ot_41_sizes, ot_41_bans, d0_1, bt_41⟩
                   have Dt_41_sizes_t_11_sizes := Lib.hid (apart_call ot_41_sizes Ot_11_sizes.out)
                   have Dt_41_sizes_t_11_bans := Lib.hid (apart_call ot_41_sizes Ot_11_bans.out)
                   have Dt_41_sizes_t_12a := Lib.hid (apart_call ot_41_sizes Ot_12a.out)
                   have Dt_41_sizes_t_19_sizes := Lib.hid (apart_call ot_41_sizes Ot_19_sizes.out)
                   have Dt_41_sizes_t_19_bans := Lib.hid (apart_call ot_41_sizes Ot_19_bans.out)
                   have Dt_41_sizes_t_23a := Lib.hid (apart_call ot_41_sizes Ot_23a.out)
                   have Dt_41_sizes_aT_0 := Lib.hid (apart_callbox ot_41_sizes kaT_0_0__294)
                   have Dt_41_sizes_x0_20 := Lib.hid (apart_callbox ot_41_sizes kx0_20_0)
                   have Dt_41_bans_t_11_sizes := Lib.hid (apart_call ot_41_bans Ot_11_sizes.out)
                   have Dt_41_bans_t_11_bans := Lib.hid (apart_call ot_41_bans Ot_11_bans.out)
                   have Dt_41_bans_t_12a := Lib.hid (apart_call ot_41_bans Ot_12a.out)
                   have Dt_41_bans_t_19_sizes := Lib.hid (apart_call ot_41_bans Ot_19_sizes.out)
                   have Dt_41_bans_t_19_bans := Lib.hid (apart_call ot_41_bans Ot_19_bans.out)
                   have Dt_41_bans_t_23a := Lib.hid (apart_call ot_41_bans Ot_23a.out)
                   have Dt_41_bans_aT_0 := Lib.hid (apart_callbox ot_41_bans kaT_0_0__294)
                   have Dt_41_bans_x0_20 := Lib.hid (apart_callbox ot_41_bans kx0_20_0)
                   have Dt_41_sizes_t_41_bans := Lib.hid d0_1
                   have Ot_41_sizes := Lib.hid (own_lower ot_41_sizes HBwt_31.drew.out.size)
                   clear ot_41_sizes
                   have Ot_41_bans := Lib.hid (own_lower ot_41_bans HBwt_31.drew.out.size)
                   clear ot_41_bans
                   have HBwt_41 := Lib.hid (Below.step HBwt_31.drew.out bt_41)
                   replace kaT_0_0__294 := cell_below bt_41 kaT_0_0__294
                   replace kaT_0_1__295 := cell_below bt_41 kaT_0_1__295
                   replace kx0_20_0 := cell_below bt_41 kx0_20_0
                   replace kx0_20_1 := cell_below bt_41 kx0_20_1
                   replace Ot_11_sizes := Lib.hid (own_below Ot_11_sizes.out bt_41)
                   replace Ot_11_bans := Lib.hid (own_below Ot_11_bans.out bt_41)
                   replace Ot_12a := Lib.hid (own_below Ot_12a.out bt_41)
                   replace Ot_19_sizes := Lib.hid (own_below Ot_19_sizes.out bt_41)
                   replace Ot_19_bans := Lib.hid (own_below Ot_19_bans.out bt_41)
                   replace Ot_23a := Lib.hid (own_below Ot_23a.out bt_41)
                   clear bt_41
                   clear qt_41)
                | (go_at_call 17
                   refine (Go.Proofs.Ytdbgmcgjklmkkaa.GlEqKindTable.C (t_19_sizes) (t_19_bans) (t_41_sizes) (t_41_bans) At_19_sizes ct_19_sizes At_19_bans ct_19_bans At_41_sizes ct_41_sizes At_41_bans ct_41_bans _   (Lib.hid (own_cells Ot_19_sizes.out)) (Lib.hid (own_max Ot_19_sizes.out)) (Lib.hid (own_cells Ot_19_bans.out)) (Lib.hid (own_max Ot_19_bans.out)) (Lib.hid (own_cells Ot_41_sizes.out)) (Lib.hid (own_max Ot_41_sizes.out)) (Lib.hid (own_cells Ot_41_bans.out)) (Lib.hid (own_max Ot_41_bans.out)) qt_42).mono ?_
                   rintro e_t_42 wt_42 ⟨rfl, bt_42⟩
                   have HBwt_42 := Lib.hid (Below.step HBwt_41.out bt_42)
                   replace kaT_0_0__294 := cell_below bt_42 kaT_0_0__294
                   replace kaT_0_1__295 := cell_below bt_42 kaT_0_1__295
                   replace kx0_20_0 := cell_below bt_42 kx0_20_0
                   replace kx0_20_1 := cell_below bt_42 kx0_20_1
                   replace Ot_11_sizes := Lib.hid (own_below Ot_11_sizes.out bt_42)
                   replace Ot_11_bans := Lib.hid (own_below Ot_11_bans.out bt_42)
                   replace Ot_12a := Lib.hid (own_below Ot_12a.out bt_42)
                   replace Ot_19_sizes := Lib.hid (own_below Ot_19_sizes.out bt_42)
                   replace Ot_19_bans := Lib.hid (own_below Ot_19_bans.out bt_42)
                   replace Ot_23a := Lib.hid (own_below Ot_23a.out bt_42)
                   replace Ot_41_sizes := Lib.hid (own_below Ot_41_sizes.out bt_42)
                   replace Ot_41_bans := Lib.hid (own_below Ot_41_bans.out bt_42)
                   clear bt_42
                   clear qt_42))
          replace H := ite_f H
          replace H := bind3_hid H
          obtain ⟨t_48, lt_48, mt_48, qt_48, H⟩ := H
          go_wp2_with fail
          go_at_call 18
          refine (Go.Proofs.Ytdbgmcgjklmkkaa.GlMarkKindTable.C (t_19_sizes) (t_19_bans) (1) At_19_sizes ct_19_sizes At_19_bans ct_19_bans w.heap.size _ Ot_19_sizes (Lib.hid (own_max Ot_19_sizes.out)) Ot_19_bans (Lib.hid (own_max Ot_19_bans.out)) (Lib.hid Dt_19_sizes_t_19_bans.out) qt_48).mono ?_
          rintro e_t_48 wt_48 ⟨rfl, ot_48, nt_48, pt_48, rt_48, gt_48⟩
          have Pt_48 := Lib.hid ot_48
          have Rt_48 := Lib.hid pt_48
          have Gt_48 := Lib.hid gt_48
          replace nt_48 := Lib.hid nt_48
          replace rt_48 := Lib.hid rt_48
          clear ot_48 pt_48 gt_48
          have HBwt_48 := Lib.hid (below2 HBwt_42.out Gt_48.out HBwt_42.out.size (own_ge2 Ot_19_sizes.out) (own_ge2 Ot_19_bans.out))
          replace kaT_0_0__294 := cell_other2 kaT_0_0__294 Gt_48.out Dt_19_sizes_aT_0.out Dt_19_bans_aT_0.out
          replace kaT_0_1__295 := cell_other2 kaT_0_1__295 Gt_48.out Dt_19_sizes_aT_0.out Dt_19_bans_aT_0.out
          replace kx0_20_0 := cell_other2 kx0_20_0 Gt_48.out (Apart.symm Dx0_20_t_19_sizes.out) (Apart.symm Dx0_20_t_19_bans.out)
          replace kx0_20_1 := cell_other2 kx0_20_1 Gt_48.out (Apart.symm Dx0_20_t_19_sizes.out) (Apart.symm Dx0_20_t_19_bans.out)
          replace Ot_11_sizes := Lib.hid (own_other2 Ot_11_sizes.out Gt_48.out Dt_19_sizes_t_11_sizes.out Dt_19_bans_t_11_sizes.out)
          replace Ot_11_bans := Lib.hid (own_other2 Ot_11_bans.out Gt_48.out Dt_19_sizes_t_11_bans.out Dt_19_bans_t_11_bans.out)
          replace Ot_12a := Lib.hid (own_other2 Ot_12a.out Gt_48.out Dt_19_sizes_t_12a.out Dt_19_bans_t_12a.out)
          replace Ot_23a := Lib.hid (own_other2 Ot_23a.out Gt_48.out (Apart.symm Dt_23a_t_19_sizes.out) (Apart.symm Dt_23a_t_19_bans.out))
          replace Ot_41_sizes := Lib.hid (own_other2 Ot_41_sizes.out Gt_48.out (Apart.symm Dt_41_sizes_t_19_sizes.out) (Apart.symm Dt_41_sizes_t_19_bans.out))
          replace Ot_41_bans := Lib.hid (own_other2 Ot_41_bans.out Gt_48.out (Apart.symm Dt_41_bans_t_19_sizes.out) (Apart.symm Dt_41_bans_t_19_bans.out))
          clear Ot_19_sizes Ot_19_bans Gt_48
          replace H := let_hid H
          obtain ⟨t_51, ht_51, H⟩ := H
          replace H := join_hid H
          cases t_51 with
          | false =>
            replace H := ite_f H
            replace H := bind_hid H
            obtain ⟨t_55, qt_55, H⟩ := H
            go_wp2_with fail
            go_at_call 16
            refine (Go.Proofs.Ytdbgmcgjklmkkaa.GlEqIntS.C (t_23a) (t_12a) At_23a ct_23a At_12a ct_12a _   (Lib.hid (own_cells Ot_23a.out)) (Lib.hid (own_max Ot_23a.out)) (Lib.hid (own_cells Ot_12a.out)) (Lib.hid (own_max Ot_12a.out)) qt_55).mono ?_
            rintro e_t_55 wt_55 ⟨rfl, bt_55⟩
            have HBwt_55 := Lib.hid (Below.step HBwt_48.out bt_55)
            replace kaT_0_0__294 := cell_below bt_55 kaT_0_0__294
            replace kaT_0_1__295 := cell_below bt_55 kaT_0_1__295
            replace kx0_20_0 := cell_below bt_55 kx0_20_0
            replace kx0_20_1 := cell_below bt_55 kx0_20_1
            replace Ot_11_sizes := Lib.hid (own_below Ot_11_sizes.out bt_55)
            replace Ot_11_bans := Lib.hid (own_below Ot_11_bans.out bt_55)
            replace Ot_12a := Lib.hid (own_below Ot_12a.out bt_55)
            replace Pt_48 := Lib.hid (own_below Pt_48.out bt_55)
            replace Rt_48 := Lib.hid (own_below Rt_48.out bt_55)
            replace Ot_23a := Lib.hid (own_below Ot_23a.out bt_55)
            replace Ot_41_sizes := Lib.hid (own_below Ot_41_sizes.out bt_55)
            replace Ot_41_bans := Lib.hid (own_below Ot_41_bans.out bt_55)
            clear bt_55
            cases t_55 with
            | false =>
              replace H := let_hid H
              obtain ⟨t_56, ht_56, H⟩ := H
              obtain rfl : t_56 = true := ht_56.symm
              replace H := app_hid H
              replace H := join_hid H
              replace H := ite_t H
              replace H := app_hid H
              replace H := ite_t H
              obtain rfl := ret_hid H
              go_wp2_with fail
              go_ret
              exact ⟨rfl, HBwt_55.out⟩
            | true =>
              replace H := let_hid H
              obtain ⟨t_56, ht_56, H⟩ := H
              obtain rfl : t_56 = false := ht_56.symm
              replace H := app_hid H
              replace H := join_hid H
              replace H := ite_f H
              replace H := let_hid H
              obtain ⟨t_61, ht_61, H⟩ := H
              obtain rfl := ht_36.symm.trans ht_61
              replace H := app_hid H
              replace H := ite_f H
              replace H := bind2_hid H
              obtain ⟨t_67, lt_67, qt_67, H⟩ := H
              go_wp2_with fail
              go_at_call 19
              refine (Go.Proofs.Ytdbgmcgjklmkkaa.GlMarkIntS.C (t_23a) (1) At_23a ct_23a w.heap.size _   Ot_23a (Lib.hid (own_max Ot_23a.out))   qt_67).mono ?_
              rintro e_t_67 wt_67 ⟨rfl, ot_67, nt_67, gt_67⟩
              have Pt_67 := Lib.hid ot_67
              have Gt_67 := Lib.hid gt_67
              replace nt_67 := Lib.hid nt_67
              clear ot_67 gt_67
              have HBwt_67 := Lib.hid (HBwt_55.out.grown Gt_67.out HBwt_55.out.size (fun q hq => (Ot_23a.out.lt q hq).1))
              replace kaT_0_0__294 := cell_other kaT_0_0__294 Gt_67.out Dt_23a_aT_0.out
              replace kaT_0_1__295 := cell_other kaT_0_1__295 Gt_67.out Dt_23a_aT_0.out
              replace kx0_20_0 := cell_other kx0_20_0 Gt_67.out Dt_23a_x0_20.out
              replace kx0_20_1 := cell_other kx0_20_1 Gt_67.out Dt_23a_x0_20.out
              replace Ot_11_sizes := Lib.hid (own_other Ot_11_sizes.out Gt_67.out Dt_23a_t_11_sizes.out)
              replace Ot_11_bans := Lib.hid (own_other Ot_11_bans.out Gt_67.out Dt_23a_t_11_bans.out)
              replace Ot_12a := Lib.hid (own_other Ot_12a.out Gt_67.out Dt_23a_t_12a.out)
              replace Pt_48 := Lib.hid (own_other Pt_48.out Gt_67.out Dt_23a_t_19_sizes.out)
              replace Rt_48 := Lib.hid (own_other Rt_48.out Gt_67.out Dt_23a_t_19_bans.out)
              replace Ot_41_sizes := Lib.hid (own_other Ot_41_sizes.out Gt_67.out (Apart.symm Dt_41_sizes_t_23a.out))
              replace Ot_41_bans := Lib.hid (own_other Ot_41_bans.out Gt_67.out (Apart.symm Dt_41_bans_t_23a.out))
              clear Ot_23a Gt_67
              replace H := bind_hid H
              obtain ⟨t_72, qt_72, H⟩ := H
              go_wp2_with fail
              have hc_ := nt_67.out
              have hv_ : (Value.slice At_23a t_23a.length ct_23a : Value) = Value.slice At_23a lt_67.length ct_23a := by rw [hc_]
              try rw [hv_]
              replace Pt_67 := Lib.hid (own_len hc_ Pt_67.out)
              clear hc_ hv_
              go_wp2_with fail
              go_at_call 20
              refine (Go.Proofs.Ytdbgmcgjklmkkaa.GlHeldIntS.C (lt_67) (1) At_23a ct_23a _   (Lib.hid (own_cells Pt_67.out)) (Lib.hid (own_max Pt_67.out)) qt_72).mono ?_
              rintro e_t_72 wt_72 ⟨rfl, bt_72⟩
              have HBwt_72 := Lib.hid (Below.step HBwt_67.out bt_72)
              replace kaT_0_0__294 := cell_below bt_72 kaT_0_0__294
              replace kaT_0_1__295 := cell_below bt_72 kaT_0_1__295
              replace kx0_20_0 := cell_below bt_72 kx0_20_0
              replace kx0_20_1 := cell_below bt_72 kx0_20_1
              replace Ot_11_sizes := Lib.hid (own_below Ot_11_sizes.out bt_72)
              replace Ot_11_bans := Lib.hid (own_below Ot_11_bans.out bt_72)
              replace Ot_12a := Lib.hid (own_below Ot_12a.out bt_72)
              replace Pt_48 := Lib.hid (own_below Pt_48.out bt_72)
              replace Rt_48 := Lib.hid (own_below Rt_48.out bt_72)
              replace Pt_67 := Lib.hid (own_below Pt_67.out bt_72)
              replace Ot_41_sizes := Lib.hid (own_below Ot_41_sizes.out bt_72)
              replace Ot_41_bans := Lib.hid (own_below Ot_41_bans.out bt_72)
              clear bt_72
              replace H := let_hid H
              obtain ⟨t_75, ht_75, H⟩ := H
              cases t_75 with
              | false =>
                replace H := ite_f H
                replace H := let_hid H
                obtain ⟨t_79, ht_79, H⟩ := H
                cases t_79 with
                | false =>
                  replace H := ite_f H
                  replace H := bind_hid H
                  obtain ⟨t_82, qt_82, H⟩ := H
                  obtain ⟨t_82_sizes, t_82_bans⟩ := t_82
                  replace H := unKindTable_hid H
                  go_wp2_with fail
                  go_at_call 14
                  refine (Go.Proofs.Ytdbgmcgjklmkkaa.GlToKindTable.C (aT_sizes) (aT_bans) A0_0 c0_0 A0_1 c0_1 _   (Lib.hid (Cells.below M0_0.out HBwt_72.out)) N0_0 (Lib.hid (Cells.below M0_1.out HBwt_72.out)) N0_1 qt_82).mono ?_
                  rintro e_t_82 wt_82 ⟨At_82_sizes, ct_82_sizes, At_82_bans, ct_82_bans, rfl, ot_82_sizes, ot_82_bans, d0_1, bt_82⟩
                  have Dt_82_sizes_t_11_sizes := Lib.hid (apart_call ot_82_sizes Ot_11_sizes.out)
                  have Dt_82_sizes_t_11_bans := Lib.hid (apart_call ot_82_sizes Ot_11_bans.out)
                  have Dt_82_sizes_t_12a := Lib.hid (apart_call ot_82_sizes Ot_12a.out)
                  have Dt_82_sizes_t_19_sizes := Lib.hid (apart_call ot_82_sizes Pt_48.out)
                  have Dt_82_sizes_t_19_bans := Lib.hid (apart_call ot_82_sizes Rt_48.out)
                  have Dt_82_sizes_t_23a := Lib.hid (apart_call ot_82_sizes Pt_67.out)
                  have Dt_82_sizes_t_41_sizes := Lib.hid (apart_call ot_82_sizes Ot_41_sizes.out)
                  have Dt_82_sizes_t_41_bans := Lib.hid (apart_call ot_82_sizes Ot_41_bans.out)
                  have Dt_82_sizes_aT_0 := Lib.hid (apart_callbox ot_82_sizes kaT_0_0__294)
                  have Dt_82_sizes_x0_20 := Lib.hid (apart_callbox ot_82_sizes kx0_20_0)
                  have Dt_82_bans_t_11_sizes := Lib.hid (apart_call ot_82_bans Ot_11_sizes.out)
                  have Dt_82_bans_t_11_bans := Lib.hid (apart_call ot_82_bans Ot_11_bans.out)
                  have Dt_82_bans_t_12a := Lib.hid (apart_call ot_82_bans Ot_12a.out)
                  have Dt_82_bans_t_19_sizes := Lib.hid (apart_call ot_82_bans Pt_48.out)
                  have Dt_82_bans_t_19_bans := Lib.hid (apart_call ot_82_bans Rt_48.out)
                  have Dt_82_bans_t_23a := Lib.hid (apart_call ot_82_bans Pt_67.out)
                  have Dt_82_bans_t_41_sizes := Lib.hid (apart_call ot_82_bans Ot_41_sizes.out)
                  have Dt_82_bans_t_41_bans := Lib.hid (apart_call ot_82_bans Ot_41_bans.out)
                  have Dt_82_bans_aT_0 := Lib.hid (apart_callbox ot_82_bans kaT_0_0__294)
                  have Dt_82_bans_x0_20 := Lib.hid (apart_callbox ot_82_bans kx0_20_0)
                  have Dt_82_sizes_t_82_bans := Lib.hid d0_1
                  have Ot_82_sizes := Lib.hid (own_lower ot_82_sizes HBwt_72.out.size)
                  clear ot_82_sizes
                  have Ot_82_bans := Lib.hid (own_lower ot_82_bans HBwt_72.out.size)
                  clear ot_82_bans
                  have HBwt_82 := Lib.hid (Below.step HBwt_72.out bt_82)
                  replace kaT_0_0__294 := cell_below bt_82 kaT_0_0__294
                  replace kaT_0_1__295 := cell_below bt_82 kaT_0_1__295
                  replace kx0_20_0 := cell_below bt_82 kx0_20_0
                  replace kx0_20_1 := cell_below bt_82 kx0_20_1
                  replace Ot_11_sizes := Lib.hid (own_below Ot_11_sizes.out bt_82)
                  replace Ot_11_bans := Lib.hid (own_below Ot_11_bans.out bt_82)
                  replace Ot_12a := Lib.hid (own_below Ot_12a.out bt_82)
                  replace Pt_48 := Lib.hid (own_below Pt_48.out bt_82)
                  replace Rt_48 := Lib.hid (own_below Rt_48.out bt_82)
                  replace Pt_67 := Lib.hid (own_below Pt_67.out bt_82)
                  replace Ot_41_sizes := Lib.hid (own_below Ot_41_sizes.out bt_82)
                  replace Ot_41_bans := Lib.hid (own_below Ot_41_bans.out bt_82)
                  clear bt_82
                  replace H := bind2_hid H
                  obtain ⟨t_83a, t_83b, qt_83, H⟩ := H
                  go_wp2_with fail
                  go_at_call 15
                  refine (Go.Proofs.Ytdbgmcgjklmkkaa.GiNeedlessBans.C fuel (t_82_sizes) (t_82_bans) At_82_sizes ct_82_sizes At_82_bans ct_82_bans _   (Lib.hid (own_cells Ot_82_sizes.out)) (Lib.hid (own_max Ot_82_sizes.out)) (Lib.hid (own_room Ot_82_sizes.out)) (Lib.hid (own_cells Ot_82_bans.out)) (Lib.hid (own_max Ot_82_bans.out)) (Lib.hid (own_room Ot_82_bans.out)) qt_83).mono ?_
                  rintro e_t_83 wt_83 ⟨At_83a, ct_83a, rfl, ot_83a, bt_83⟩
                  have Dt_83a_t_11_sizes := Lib.hid (apart_call ot_83a Ot_11_sizes.out)
                  have Dt_83a_t_11_bans := Lib.hid (apart_call ot_83a Ot_11_bans.out)
                  have Dt_83a_t_12a := Lib.hid (apart_call ot_83a Ot_12a.out)
                  have Dt_83a_t_19_sizes := Lib.hid (apart_call ot_83a Pt_48.out)
                  have Dt_83a_t_19_bans := Lib.hid (apart_call ot_83a Rt_48.out)
                  have Dt_83a_t_23a := Lib.hid (apart_call ot_83a Pt_67.out)
                  have Dt_83a_t_41_sizes := Lib.hid (apart_call ot_83a Ot_41_sizes.out)
                  have Dt_83a_t_41_bans := Lib.hid (apart_call ot_83a Ot_41_bans.out)
                  have Dt_83a_t_82_sizes := Lib.hid (apart_call ot_83a Ot_82_sizes.out)
                  have Dt_83a_t_82_bans := Lib.hid (apart_call ot_83a Ot_82_bans.out)
                  have Dt_83a_aT_0 := Lib.hid (apart_callbox ot_83a kaT_0_0__294)
                  have Dt_83a_x0_20 := Lib.hid (apart_callbox ot_83a kx0_20_0)
                  have Ot_83a := Lib.hid (own_lower ot_83a HBwt_82.out.size)
                  clear ot_83a
                  have HBwt_83 := Lib.hid (Below.step HBwt_82.out bt_83)
                  replace kaT_0_0__294 := cell_below bt_83 kaT_0_0__294
                  replace kaT_0_1__295 := cell_below bt_83 kaT_0_1__295
                  replace kx0_20_0 := cell_below bt_83 kx0_20_0
                  replace kx0_20_1 := cell_below bt_83 kx0_20_1
                  replace Ot_11_sizes := Lib.hid (own_below Ot_11_sizes.out bt_83)
                  replace Ot_11_bans := Lib.hid (own_below Ot_11_bans.out bt_83)
                  replace Ot_12a := Lib.hid (own_below Ot_12a.out bt_83)
                  replace Pt_48 := Lib.hid (own_below Pt_48.out bt_83)
                  replace Rt_48 := Lib.hid (own_below Rt_48.out bt_83)
                  replace Pt_67 := Lib.hid (own_below Pt_67.out bt_83)
                  replace Ot_41_sizes := Lib.hid (own_below Ot_41_sizes.out bt_83)
                  replace Ot_41_bans := Lib.hid (own_below Ot_41_bans.out bt_83)
                  replace Ot_82_sizes := Lib.hid (own_below Ot_82_sizes.out bt_83)
                  replace Ot_82_bans := Lib.hid (own_below Ot_82_bans.out bt_83)
                  clear bt_83
                  replace H := bind_hid H
                  obtain ⟨t_91, qt_91, H⟩ := H
                  go_wp2_with fail
                  go_at_call 16
                  refine (Go.Proofs.Ytdbgmcgjklmkkaa.GlEqIntS.C (t_83a) (t_12a) At_83a ct_83a At_12a ct_12a _   (Lib.hid (own_cells Ot_83a.out)) (Lib.hid (own_max Ot_83a.out)) (Lib.hid (own_cells Ot_12a.out)) (Lib.hid (own_max Ot_12a.out)) qt_91).mono ?_
                  rintro e_t_91 wt_91 ⟨rfl, bt_91⟩
                  have HBwt_91 := Lib.hid (Below.step HBwt_83.out bt_91)
                  replace kaT_0_0__294 := cell_below bt_91 kaT_0_0__294
                  replace kaT_0_1__295 := cell_below bt_91 kaT_0_1__295
                  replace kx0_20_0 := cell_below bt_91 kx0_20_0
                  replace kx0_20_1 := cell_below bt_91 kx0_20_1
                  replace Ot_11_sizes := Lib.hid (own_below Ot_11_sizes.out bt_91)
                  replace Ot_11_bans := Lib.hid (own_below Ot_11_bans.out bt_91)
                  replace Ot_12a := Lib.hid (own_below Ot_12a.out bt_91)
                  replace Pt_48 := Lib.hid (own_below Pt_48.out bt_91)
                  replace Rt_48 := Lib.hid (own_below Rt_48.out bt_91)
                  replace Pt_67 := Lib.hid (own_below Pt_67.out bt_91)
                  replace Ot_41_sizes := Lib.hid (own_below Ot_41_sizes.out bt_91)
                  replace Ot_41_bans := Lib.hid (own_below Ot_41_bans.out bt_91)
                  replace Ot_82_sizes := Lib.hid (own_below Ot_82_sizes.out bt_91)
                  replace Ot_82_bans := Lib.hid (own_below Ot_82_bans.out bt_91)
                  replace Ot_83a := Lib.hid (own_below Ot_83a.out bt_91)
                  clear bt_91
                  cases t_91 with
                  | false =>
                    replace H := let_hid H
                    obtain ⟨t_92, ht_92, H⟩ := H
                    obtain rfl : t_92 = true := ht_92.symm
                    replace H := join_hid H
                    replace H := ite_t H
                    replace H := app_hid H
                    replace H := ite_t H
                    obtain rfl := ret_hid H
                    go_wp2_with fail
                    go_ret
                    exact ⟨rfl, HBwt_91.out⟩
                  | true =>
                    replace H := let_hid H
                    obtain ⟨t_92, ht_92, H⟩ := H
                    obtain rfl : t_92 = false := ht_92.symm
                    replace H := join_hid H
                    replace H := ite_f H
                    replace H := let_hid H
                    obtain ⟨t_96, ht_96, H⟩ := H
                    replace H := app_hid H
                    cases t_96 with
                    | false =>
                      replace H := ite_f H
                      replace H := bind_hid H
                      obtain ⟨t_102, qt_102, H⟩ := H
                      go_wp2_with fail
                      go_at_call 20
                      refine (Go.Proofs.Ytdbgmcgjklmkkaa.GlHeldIntS.C (lt_67) (1) At_23a ct_23a _   (Lib.hid (own_cells Pt_67.out)) (Lib.hid (own_max Pt_67.out)) qt_102).mono ?_
                      rintro e_t_102 wt_102 ⟨rfl, bt_102⟩
                      have HBwt_102 := Lib.hid (Below.step HBwt_91.out bt_102)
                      replace kaT_0_0__294 := cell_below bt_102 kaT_0_0__294
                      replace kaT_0_1__295 := cell_below bt_102 kaT_0_1__295
                      replace kx0_20_0 := cell_below bt_102 kx0_20_0
                      replace kx0_20_1 := cell_below bt_102 kx0_20_1
                      replace Ot_11_sizes := Lib.hid (own_below Ot_11_sizes.out bt_102)
                      replace Ot_11_bans := Lib.hid (own_below Ot_11_bans.out bt_102)
                      replace Ot_12a := Lib.hid (own_below Ot_12a.out bt_102)
                      replace Pt_48 := Lib.hid (own_below Pt_48.out bt_102)
                      replace Rt_48 := Lib.hid (own_below Rt_48.out bt_102)
                      replace Pt_67 := Lib.hid (own_below Pt_67.out bt_102)
                      replace Ot_41_sizes := Lib.hid (own_below Ot_41_sizes.out bt_102)
                      replace Ot_41_bans := Lib.hid (own_below Ot_41_bans.out bt_102)
                      replace Ot_82_sizes := Lib.hid (own_below Ot_82_sizes.out bt_102)
                      replace Ot_82_bans := Lib.hid (own_below Ot_82_bans.out bt_102)
                      replace Ot_83a := Lib.hid (own_below Ot_83a.out bt_102)
                      clear bt_102
                      replace H := let_hid H
                      obtain ⟨t_105, ht_105, H⟩ := H
                      cases t_105 with
                      | false =>
                        replace H := ite_f H
                        replace H := let_hid H
                        obtain ⟨t_109, ht_109, H⟩ := H
                        cases t_109 with
                        | false =>
                          replace H := ite_f H
                          obtain rfl := ret_hid H
                          go_wp2_with fail
                          go_ret
                          exact ⟨rfl, HBwt_102.out⟩
                        | true =>
                          replace H := ite_t H
                          obtain rfl := ret_hid H
                          go_wp2_with fail
                          go_ret
                          exact ⟨rfl, HBwt_102.out⟩
                      | true =>
                        replace H := ite_t H
                        obtain rfl := ret_hid H
                        go_wp2_with fail
                        go_ret
                        exact ⟨rfl, HBwt_102.out⟩
                    | true =>
                      replace H := ite_t H
                      obtain rfl := ret_hid H
                      go_wp2_with fail
                      go_ret
                      exact ⟨rfl, HBwt_91.out⟩
                | true =>
                  replace H := ite_t H
                  obtain rfl := ret_hid H
                  go_wp2_with fail
                  go_ret
                  exact ⟨rfl, HBwt_72.out⟩
              | true =>
                replace H := ite_t H
                obtain rfl := ret_hid H
                go_wp2_with fail
                go_ret
                exact ⟨rfl, HBwt_72.out⟩
          | true =>
            replace H := ite_t H
            replace H := app_hid H
            replace H := join_hid H
            replace H := ite_t H
            replace H := app_hid H
            replace H := ite_t H
            obtain rfl := ret_hid H
            go_wp2_with fail
            go_ret
            exact ⟨rfl, HBwt_48.out⟩
      | true =>
        replace H := ite_t H
        obtain rfl := ret_hid H
        go_wp2_with fail
        go_ret
        exact ⟨rfl, HBwt_31.out⟩
  | true =>
    replace H := ite_t H
    obtain rfl := ret_hid H
    go_wp2_with fail
    go_ret
    exact ⟨rfl, HBwt_5.out⟩
end Go.Proofs.Ytdbgmcgjklmkkaa.GlFnExactNeedlessBans

/- Plain words on stamps: what a stamp is, when one is valid, when a list of them is; the cells of a list of records. No condition. -/
namespace Go.Proofs.Ytdbgmcgjklmkkaa.PlainStamp
set_option linter.unusedVariables false

/-- a number lies in a..b -/
def inB (x a b : Int) : Bool := decide (a ≤ x ∧ x ≤ b)
theorem inB_yes {x a b : Int} (h1 : a ≤ x) (h2 : x ≤ b) : inB x a b = true := by unfold inB; exact decide_eq_true ⟨h1, h2⟩
theorem inB_of {x a b : Int} (h : inB x a b = true) : a ≤ x ∧ x ≤ b := by unfold inB at h; exact of_decide_eq_true h
theorem inB_no {x a b : Int} (h : x < a ∨ b < x) : inB x a b = false := by unfold inB; exact decide_eq_false (by omega)

structure St where
  id : Int
  face : Int
  color : Int
  year : Int
deriving DecidableEq

def St.cells (s : St) : List Value := [.int .i64 s.id, .int .i64 s.face, .int .i64 s.color, .int .i64 s.year]
def St.val (s : St) : Value := .agg #[.int .i64 s.id, .int .i64 s.face, .int .i64 s.color, .int .i64 s.year]
/-- each field fits an int -/
def St.fits (s : St) : Prop := (Lit.int .i64 s.id).wf = true ∧ (Lit.int .i64 s.face).wf = true ∧ (Lit.int .i64 s.color).wf = true ∧ (Lit.int .i64 s.year).wf = true

def okSt (s : St) : Bool := inB s.id 1 999 && inB s.face 0 9999 && inB s.color 0 99 && inB s.year 1840 2100
theorem okSt_yes {s : St} (h : okSt s = true) : (1 ≤ s.id ∧ s.id ≤ 999) ∧ (0 ≤ s.face ∧ s.face ≤ 9999) ∧ (0 ≤ s.color ∧ s.color ≤ 99) ∧ (1840 ≤ s.year ∧ s.year ≤ 2100) := by
  unfold okSt at h
  simp only [Bool.and_eq_true] at h
  exact ⟨inB_of h.1.1.1, inB_of h.1.1.2, inB_of h.1.2, inB_of h.2⟩

/-- the stamp at k is valid, and its id is above the one ahead of it -/
def okAt (l : List St) (k : Nat) : Bool :=
  match l[k]? with
  | none => true
  | some s => okSt s && (decide (k = 0) || (match l[k-1]? with | none => true | some r => decide (r.id < s.id)))
def okUp (l : List St) (k : Nat) : Bool := (List.range k).all (okAt l)
theorem okUp_zero (l : List St) : okUp l 0 = true := by simp [okUp]
theorem okUp_succ (l : List St) (k : Nat) : okUp l (k + 1) = (okUp l k && okAt l k) := by simp [okUp, List.range_succ, List.all_append]
theorem okUp_not {l : List St} {k n : Nat} (h : okAt l k = false) (hk : k < n) : okUp l n = false := by
  unfold okUp
  rw [Bool.eq_false_iff]
  intro hall
  have := List.all_eq_true.1 hall k (List.mem_range.2 hk)
  rw [h] at this; exact absurd this (by simp)
/-- a list of at most twelve valid stamps with rising ids -/
def okSts (l : List St) : Bool := decide (l.length ≤ 12) && okUp l l.length
theorem okAt_of {l : List St} {k : Nat} {s : St} (hs : l[k]? = some s) (h : okAt l k = true) : okSt s = true ∧ ∀ r, 0 < k → l[k-1]? = some r → r.id < s.id := by
  unfold okAt at h
  rw [hs] at h
  simp only [Bool.and_eq_true, Bool.or_eq_true, decide_eq_true_eq] at h
  refine ⟨h.1, fun r hk hr => ?_⟩
  rcases h.2 with h0 | h0
  · omega
  · rw [hr] at h0; simpa using h0
theorem okSts_len {l : List St} (h : okSts l = true) : l.length ≤ 12 := by unfold okSts at h; simp only [Bool.and_eq_true, decide_eq_true_eq] at h; exact h.1
theorem okSts_at {l : List St} (h : okSts l = true) {k : Nat} {s : St} (hs : l[k]? = some s) : okSt s = true ∧ ∀ r, 0 < k → l[k-1]? = some r → r.id < s.id := by
  unfold okSts at h
  simp only [Bool.and_eq_true, decide_eq_true_eq] at h
  exact okAt_of hs (List.all_eq_true.1 h.2 k (List.mem_range.2 (List.getElem?_eq_some_iff.1 hs).1))
theorem okSts_mem {l : List St} (h : okSts l = true) {s : St} (hs : s ∈ l) : okSt s = true := by
  obtain ⟨k, hk⟩ := List.getElem?_of_mem hs
  exact (okSts_at h hk).1

/-- the cells of a list of stamps, one after the other -/
def flat (l : List St) : List Value := l.flatMap St.cells
theorem flat_nil : flat [] = [] := rfl
theorem flat_cons (s : St) (l : List St) : flat (s :: l) = s.cells ++ flat l := by simp [flat]
theorem flat_len (l : List St) : (flat l).length = l.length * 4 := by
  induction l with
  | nil => rfl
  | cons s l ih => rw [flat_cons, List.length_append, ih]; simp [St.cells]; omega
theorem flat_at : ∀ (l : List St) (k : Nat) (s : St), l[k]? = some s → ∀ j, j < 4 → (flat l)[k * 4 + j]? = s.cells[j]?
  | [], k, s, h, _, _ => by simp at h
  | r :: l, 0, s, h, j, hj => by
    obtain rfl : r = s := by simpa using h
    rw [flat_cons, List.getElem?_append_left (by simp [St.cells]; omega)]; simp
  | r :: l, k + 1, s, h, j, hj => by
    rw [flat_cons, List.getElem?_append_right (by simp [St.cells]; omega), show (k + 1) * 4 + j - r.cells.length = k * 4 + j by simp [St.cells]; omega]
    exact flat_at l k s (by simpa using h) j hj
end Go.Proofs.Ytdbgmcgjklmkkaa.PlainStamp

/- Words for reckoning with plain functions; within and l1In. No condition. -/
namespace Go.Proofs.Ytdbgmcgjklmkkaa.QBase
set_option linter.unusedVariables false
set_option linter.unusedSimpArgs false
open Go.RowKit
open Go.Proofs.Ytdbgmcgjklmkkaa.GoP Go.Proofs.Ytdbgmcgjklmkkaa.PlainStamp

theorem iteK_if {ρ : Type} (c : Bool) (a b : Option ρ) : iteK c a b = if c = true then a else b := by cases c <;> rfl
theorem bind2_some {α β ρ : Type} (a : α) (b : β) (f : α → β → Option ρ) : bind2 (some (a, b)) f = f a b := rfl
theorem bind3_some {α β γ ρ : Type} (a : α) (b : β) (c : γ) (f : α → β → γ → Option ρ) : bind3 (some (a, b, c)) f = f a b c := rfl
theorem unp2_mk {α β ρ : Type} (a : α) (b : β) (f : α → β → Option ρ) : unp2 (a, b) f = f a b := rfl
theorem unp3_mk {α β γ ρ : Type} (a : α) (b : β) (c : γ) (f : α → β → γ → Option ρ) : unp3 (a, b, c) f = f a b c := rfl
theorem guardK_pos {ρ : Type} {p : Prop} [Decidable p] {a : Option ρ} (h : p) : guardK p a = a := if_pos h
theorem cut2 {α β : Type} {x : Option (α × β)} {p : α × β} (h : x = some p) : x = some (p.1, p.2) := h
theorem cut3 {α β γ : Type} {x : Option (α × β × γ)} {p : α × β × γ} (h : x = some p) : x = some (p.1, p.2.1, p.2.2) := h
theorem within_eq (n a b : Int) : GiWithin.P n a b = some (inB n a b) := by
  simp only [GiWithin.P, letK, joinK, appK, iteK_if, inB]
  by_cases h1 : a ≤ n <;> by_cases h2 : n ≤ b <;> simp [h1, h2]
theorem l1In_eq (n a b : Int) : GsL1In.P n a b = some (inB n a b) := by
  simp only [GsL1In.P, letK, joinK, appK, iteK_if, inB]
  by_cases h1 : a ≤ n <;> by_cases h2 : n ≤ b <;> simp [h1, h2]
end Go.Proofs.Ytdbgmcgjklmkkaa.QBase

/- Reckoning with the loops of plain functions; lists of valid records with rising ids. No condition. -/
namespace Go.Proofs.Ytdbgmcgjklmkkaa.QLoop
set_option linter.unusedVariables false
open Go.RowKit
open Go.Proofs.Ytdbgmcgjklmkkaa.GoP Go.Proofs.Ytdbgmcgjklmkkaa.QBase

theorem cnt_ex {σ ρ : Type} {f : Nat → σ → (σ → Option ρ) → (σ → Option ρ) → Option ρ} {fin : σ → Option ρ} {Q : ρ → Prop} {n : Nat} (I : Nat → σ → Prop)
    (step : ∀ k s nx, k < n → I k s → (∀ s', I (k + 1) s' → ∃ r, nx s' = some r ∧ Q r) → ∃ r, f k s nx fin = some r ∧ Q r) (done : ∀ s, I n s → ∃ r, fin s = some r ∧ Q r) :
    ∀ m k s, k + m = n → I k s → ∃ r, cntK f m k s fin = some r ∧ Q r := by
  intro m
  induction m with
  | zero => intro k s hk hI; obtain rfl : k = n := by omega
            exact done s hI
  | succ m ih => intro k s hk hI; exact step k s _ (by omega) hI (fun s' h' => ih (k + 1) s' (by omega) h')
theorem cnt_is {σ ρ : Type} {f : Nat → σ → (σ → Option ρ) → (σ → Option ρ) → Option ρ} {fin : σ → Option ρ} {n : Nat} (r : ρ) (I : Nat → σ → Prop)
    (step : ∀ k s nx, k < n → I k s → (∀ s', I (k + 1) s' → nx s' = some r) → f k s nx fin = some r) (done : ∀ s, I n s → fin s = some r) (s : σ) (h0 : I 0 s) : cntK f n 0 s fin = some r := by
  obtain ⟨r', h, rfl⟩ := cnt_ex (Q := fun x => x = r) I (fun k s nx hk hI hn => ⟨r, step k s nx hk hI (fun s' h' => by obtain ⟨_, h, rfl⟩ := hn s' h'; exact h), rfl⟩) (fun s h => ⟨r, done s h, rfl⟩) n 0 s (by omega) h0
  exact h
theorem at_lt {α : Type} {l : List α} {k : Nat} (h : k < l.length) : ∃ x, l[k]? = some x ∧ idx l (k : Int) = some x := ⟨l[k], List.getElem?_eq_getElem h, by rw [idx_nat, List.getElem?_eq_getElem h]⟩
theorem idx_pred {α : Type} {l : List α} {k : Nat} {x : α} (hk : 0 < k) (hb : k ≤ 9223372036854775807) (h : l[k - 1]? = some x) : idx l (IntKind.i64.wrap ((k : Int) - 1)) = some x := by
  rw [IntWalk.i64_in _ (by omega), show ((k : Int) - 1) = ((k - 1 : Nat) : Int) by omega, idx_nat, h]
theorem take_next {α : Type} {l : List α} {k : Nat} {x : α} (h : l[k]? = some x) : l.take (k + 1) = l.take k ++ [x] := by
  obtain ⟨hk, e⟩ := List.getElem?_eq_some_iff.1 h
  rw [List.take_succ_eq_append_getElem hk, e]
theorem all_next {α : Type} {p : α → Bool} {l : List α} {k : Nat} {x : α} (h : l[k]? = some x) : (l.take (k + 1)).all p = ((l.take k).all p && p x) := by
  rw [take_next h]; simp
theorem not_all {α : Type} {p : α → Bool} {l : List α} {k : Nat} {x : α} (h : l[k]? = some x) (hp : p x = false) : l.all p = false := by
  rw [Bool.eq_false_iff]
  intro ha
  have := List.all_eq_true.1 ha x (List.mem_of_getElem? h)
  rw [hp] at this; exact absurd this (by simp)
theorem wrap_in {x : Int} (h1 : -9223372036854775808 ≤ x) (h2 : x ≤ 9223372036854775807) : IntKind.i64.wrap x = x := IntWalk.i64_in _ (by omega)

/-- valid, and above the one ahead of it -/
def upAt {α : Type} (ok : α → Bool) (id : α → Int) (l : List α) (k : Nat) : Bool :=
  match l[k]? with
  | none => true
  | some s => ok s && (decide (k = 0) || (match l[k-1]? with | none => true | some r => decide (id r < id s)))
def upTo {α : Type} (ok : α → Bool) (id : α → Int) (l : List α) (k : Nat) : Bool := (List.range k).all (upAt ok id l)
theorem upTo_zero {α : Type} (ok : α → Bool) (id : α → Int) (l : List α) : upTo ok id l 0 = true := rfl
theorem upTo_succ {α : Type} (ok : α → Bool) (id : α → Int) (l : List α) (k : Nat) : upTo ok id l (k + 1) = (upTo ok id l k && upAt ok id l k) := by simp [upTo, List.range_succ, List.all_append]
theorem upTo_not {α : Type} {ok : α → Bool} {id : α → Int} {l : List α} {k n : Nat} (h : upAt ok id l k = false) (hk : k < n) : upTo ok id l n = false := by
  unfold upTo
  rw [Bool.eq_false_iff]
  intro ha
  have := List.all_eq_true.1 ha k (List.mem_range.2 hk)
  rw [h] at this; exact absurd this (by simp)
/-- a list of at most m valid records with rising ids -/
def upL {α : Type} (m : Nat) (ok : α → Bool) (id : α → Int) (l : List α) : Bool := decide (l.length ≤ m) && upTo ok id l l.length
theorem upAt_bad {α : Type} {ok : α → Bool} {id : α → Int} {l : List α} {k : Nat} {s : α} (hs : l[k]? = some s) (h : ok s = false) : upAt ok id l k = false := by unfold upAt; rw [hs]; simp [h]
theorem upAt_first {α : Type} {ok : α → Bool} {id : α → Int} {l : List α} {s : α} (hs : l[0]? = some s) (h : ok s = true) : upAt ok id l 0 = true := by unfold upAt; rw [hs]; simp [h]
theorem upAt_next {α : Type} {ok : α → Bool} {id : α → Int} {l : List α} {k : Nat} {s r : α} (hs : l[k]? = some s) (hr : l[k-1]? = some r) (hk : 0 < k) (h : ok s = true) : upAt ok id l k = decide (id r < id s) := by
  unfold upAt; rw [hs]; simp only [hr, h, Bool.true_and, decide_eq_false (show ¬ k = 0 by omega), Bool.false_or]
theorem upL_len {α : Type} {m : Nat} {ok : α → Bool} {id : α → Int} {l : List α} (h : upL m ok id l = true) : l.length ≤ m := by unfold upL at h; simp only [Bool.and_eq_true, decide_eq_true_eq] at h; exact h.1
theorem upL_ok {α : Type} {m : Nat} {ok : α → Bool} {id : α → Int} {l : List α} (h : upL m ok id l = true) {k : Nat} {s : α} (hs : l[k]? = some s) : ok s = true := by
  unfold upL at h
  simp only [Bool.and_eq_true, decide_eq_true_eq] at h
  have := List.all_eq_true.1 h.2 k (List.mem_range.2 (List.getElem?_eq_some_iff.1 hs).1)
  unfold upAt at this
  rw [hs] at this
  simp only [Bool.and_eq_true] at this
  exact this.1
theorem upL_mem {α : Type} {m : Nat} {ok : α → Bool} {id : α → Int} {l : List α} (h : upL m ok id l = true) {s : α} (hs : s ∈ l) : ok s = true := by
  obtain ⟨k, hk⟩ := List.getElem?_of_mem hs
  exact upL_ok h hk
/-- a loop that goes through a list of records and stops with 'false' at the first that is bad -/
theorem up_loop {α : Type} {ok : α → Bool} {id : α → Int} {l : List α} {R : Type} {no : R} {f : Nat → Unit → (Unit → Option R) → (Unit → Option R) → Option R} {fin : Unit → Option R}
    (step : ∀ k nx s, l[k]? = some s → (ok s = false → f k () nx fin = some no) ∧ (ok s = true → (k = 0 → f k () nx fin = nx ()) ∧ (0 < k → ∀ r, l[k-1]? = some r → (id r < id s → f k () nx fin = nx ()) ∧ (id s ≤ id r → f k () nx fin = some no)))) :
    cntK f l.length 0 () fin = if upTo ok id l l.length then fin () else some no := by
  have key : ∀ m k, k + m = l.length → upTo ok id l k = true → cntK f m k () fin = if upTo ok id l l.length then fin () else some no := by
    intro m
    induction m with
    | zero => intro k hk hu; obtain rfl : k = l.length := by omega
              rw [hu]; rfl
    | succ m ih =>
      intro k hk hu
      have hlt : k < l.length := by omega
      obtain ⟨s, hs, _⟩ := at_lt hlt
      obtain ⟨h1, h2⟩ := step k (fun s' => cntK f m (k + 1) s' fin) s hs
      show f k () _ fin = _
      cases hok : ok s with
      | false => rw [h1 hok, upTo_not (upAt_bad hs hok) hlt]; rfl
      | true =>
        obtain ⟨h3, h4⟩ := h2 hok
        by_cases hk0 : k = 0
        · rw [h3 hk0]
          subst hk0
          exact ih 1 (by omega) (by rw [upTo_succ, hu, upAt_first hs hok]; rfl)
        · obtain ⟨r, hr, _⟩ := at_lt (l := l) (k := k - 1) (by omega)
          obtain ⟨h5, h6⟩ := h4 (by omega) r hr
          by_cases hlt2 : id r < id s
          · rw [h5 hlt2]
            exact ih (k + 1) (by omega) (by rw [upTo_succ, hu, upAt_next hs hr (by omega) hok]; simpa using hlt2)
          · rw [h6 (by omega), upTo_not (by rw [upAt_next hs hr (by omega) hok]; simpa using hlt2) hlt]; rfl
  exact key l.length 0 (by omega) (upTo_zero ok id l)
end Go.Proofs.Ytdbgmcgjklmkkaa.QLoop

/- Loops that test each place, and loops without a count. No condition. -/
namespace Go.Proofs.Ytdbgmcgjklmkkaa.QAll
set_option linter.unusedVariables false
set_option linter.unusedSimpArgs false
open Go.RowKit
open Go.Proofs.Ytdbgmcgjklmkkaa.GoP Go.Proofs.Ytdbgmcgjklmkkaa.QBase Go.Proofs.Ytdbgmcgjklmkkaa.QLoop

/-- each number below n is good -/
def allN (n : Nat) (p : Nat → Bool) : Bool := (List.range n).all p
theorem allN_iff {n : Nat} {p : Nat → Bool} : allN n p = true ↔ ∀ i, i < n → p i = true := by unfold allN; simp
theorem allN_no {n k : Nat} {p : Nat → Bool} (hk : k < n) (h : p k = false) : allN n p = false := by
  rw [Bool.eq_false_iff]; intro ha; rw [allN_iff.1 ha k hk] at h; exact absurd h (by simp)
theorem allN_eq {n m : Nat} {p q : Nat → Bool} (h : (∀ i, i < n → p i = true) ↔ (∀ i, i < m → q i = true)) : allN n p = allN m q := by
  rw [Bool.eq_iff_iff, allN_iff, allN_iff]; exact h
theorem all_cnt {ρ : Type} {n : Nat} {p : Nat → Bool} {no : ρ} {f : Nat → Unit → (Unit → Option ρ) → (Unit → Option ρ) → Option ρ} {fin : Unit → Option ρ}
    (step : ∀ k nx, k < n → (p k = false → f k () nx fin = some no) ∧ (p k = true → f k () nx fin = nx ())) : cntK f n 0 () fin = if allN n p = true then fin () else some no := by
  have key : ∀ m k, k + m = n → (∀ i, i < k → p i = true) → cntK f m k () fin = if allN n p = true then fin () else some no := by
    intro m
    induction m with
    | zero => intro k hk hu; obtain rfl : k = n := by omega
              rw [allN_iff.2 hu]; rfl
    | succ m ih =>
      intro k hk hu
      obtain ⟨h1, h2⟩ := step k (fun s' => cntK f m (k + 1) s' fin) (by omega)
      show f k () _ fin = _
      cases hp : p k with
      | false => rw [h1 hp, allN_no (by omega) hp]; rfl
      | true =>
        rw [h2 hp]
        refine ih (k + 1) (by omega) (fun i hi => ?_)
        by_cases he : i = k
        · rw [he]; exact hp
        · exact hu i (by omega)
  exact key n 0 (by omega) (fun i hi => by omega)
theorem lp_ex {σ ρ : Type} {f : σ → (σ → Option ρ) → (σ → Option ρ) → Option ρ} {fin : σ → Option ρ} {Q : ρ → Prop} {n : Nat} (I : Nat → σ → Prop)
    (step : ∀ k s nx, k < n → I k s → (∀ s', I (k + 1) s' → ∃ r, nx s' = some r ∧ Q r) → ∃ r, f s nx fin = some r ∧ Q r) (done : ∀ s nx, I n s → ∃ r, f s nx fin = some r ∧ Q r) :
    ∀ fuel k s, k ≤ n → n - k < fuel → I k s → ∃ r, loopK f fuel s fin = some r ∧ Q r := by
  intro fuel
  induction fuel with
  | zero => intro k s hk hf; omega
  | succ m ih =>
    intro k s hk hf hI
    show ∃ r, f s _ fin = some r ∧ Q r
    by_cases he : k = n
    · subst he; exact done s _ hI
    · exact step k s _ (by omega) hI (fun s' h' => ih (k + 1) s' (by omega) (by omega) h')
theorem all_lp {ρ : Type} {n : Nat} {p : Nat → Bool} {no : ρ} {f : Int → (Int → Option ρ) → (Int → Option ρ) → Option ρ} {fin : Int → Option ρ}
    (step : ∀ (k : Nat) nx, k < n → (p k = false → f (k : Int) nx fin = some no) ∧ (p k = true → f (k : Int) nx fin = nx ((k + 1 : Nat) : Int))) (stop : ∀ nx, f (n : Int) nx fin = fin (n : Int))
    (fuel : Nat) (hf : n < fuel) : loopK f fuel 0 fin = if allN n p = true then fin (n : Int) else some no := by
  have key : ∀ fuel k, k ≤ n → n - k < fuel → (∀ i, i < k → p i = true) → loopK f fuel (k : Int) fin = if allN n p = true then fin (n : Int) else some no := by
    intro fuel
    induction fuel with
    | zero => intro k hk hf; omega
    | succ m ih =>
      intro k hk hf hu
      show f (k : Int) _ fin = _
      by_cases he : k = n
      · subst he; rw [stop, allN_iff.2 hu]; rfl
      · obtain ⟨h1, h2⟩ := step k (fun s' => loopK f m s' fin) (by omega)
        cases hp : p k with
        | false => rw [h1 hp, allN_no (by omega) hp]; rfl
        | true =>
          rw [h2 hp]
          refine ih (k + 1) (by omega) (by omega) (fun i hi => ?_)
          by_cases he : i = k
          · rw [he]; exact hp
          · exact hu i (by omega)
  exact key fuel 0 (by omega) (by omega) (fun i hi => by omega)
theorem next_i {k : Nat} (h : k ≤ 9223372036854775806) : IntKind.i64.wrap ((k : Int) + 1) = ((k + 1 : Nat) : Int) := by rw [wrap_in (by omega) (by omega)]; omega
end Go.Proofs.Ytdbgmcgjklmkkaa.QAll

/- Chapter 6: tables of kinds: the plain functions of the program and of the reference agree, and the laws answer true. (Q6Hist) No condition but those of each theorem. -/
namespace Go.Proofs.Ytdbgmcgjklmkkaa.Q6Hist
set_option linter.unusedVariables false
set_option linter.unusedSimpArgs false
open Go.RowKit
open Go.Proofs.Ytdbgmcgjklmkkaa.GoP Go.Proofs.Ytdbgmcgjklmkkaa.PlainStamp Go.Proofs.Ytdbgmcgjklmkkaa.QBase Go.Proofs.Ytdbgmcgjklmkkaa.QLoop Go.Proofs.Ytdbgmcgjklmkkaa.QAll

/-- loops that test each place; what stood the test before is known -/
theorem all_cntH {ρ : Type} {n : Nat} {p : Nat → Bool} {no : ρ} {f : Nat → Unit → (Unit → Option ρ) → (Unit → Option ρ) → Option ρ} {fin : Unit → Option ρ}
    (step : ∀ k nx, k < n → (∀ i, i < k → p i = true) → (p k = false → f k () nx fin = some no) ∧ (p k = true → f k () nx fin = nx ())) : cntK f n 0 () fin = if allN n p = true then fin () else some no := by
  have key : ∀ m k, k + m = n → (∀ i, i < k → p i = true) → cntK f m k () fin = if allN n p = true then fin () else some no := by
    intro m
    induction m with
    | zero => intro k hk hu; obtain rfl : k = n := by omega
              rw [allN_iff.2 hu]; rfl
    | succ m ih =>
      intro k hk hu
      obtain ⟨h1, h2⟩ := step k (fun s' => cntK f m (k + 1) s' fin) (by omega) hu
      show f k () _ fin = _
      cases hp : p k with
      | false => rw [h1 hp, allN_no (by omega) hp]; rfl
      | true =>
        rw [h2 hp]
        refine ih (k + 1) (by omega) (fun i hi => ?_)
        by_cases he : i = k
        · rw [he]; exact hp
        · exact hu i (by omega)
  exact key n 0 (by omega) (fun i hi => by omega)
theorem all_lpH {ρ : Type} {n : Nat} {p : Nat → Bool} {no : ρ} {f : Int → (Int → Option ρ) → (Int → Option ρ) → Option ρ} {fin : Int → Option ρ}
    (step : ∀ (k : Nat) nx, k < n → (∀ i, i < k → p i = true) → (p k = false → f (k : Int) nx fin = some no) ∧ (p k = true → f (k : Int) nx fin = nx ((k + 1 : Nat) : Int))) (stop : ∀ nx, f (n : Int) nx fin = fin (n : Int))
    (fuel : Nat) (hf : n < fuel) : loopK f fuel 0 fin = if allN n p = true then fin (n : Int) else some no := by
  have key : ∀ fuel k, k ≤ n → n - k < fuel → (∀ i, i < k → p i = true) → loopK f fuel (k : Int) fin = if allN n p = true then fin (n : Int) else some no := by
    intro fuel
    induction fuel with
    | zero => intro k hk hf; omega
    | succ m ih =>
      intro k hk hf hu
      show f (k : Int) _ fin = _
      by_cases he : k = n
      · subst he; rw [stop, allN_iff.2 hu]; rfl
      · obtain ⟨h1, h2⟩ := step k (fun s' => loopK f m s' fin) (by omega) hu
        cases hp : p k with
        | false => rw [h1 hp, allN_no (by omega) hp]; rfl
        | true =>
          rw [h2 hp]
          refine ih (k + 1) (by omega) (by omega) (fun i hi => ?_)
          by_cases he : i = k
          · rw [he]; exact hp
          · exact hu i (by omega)
  exact key fuel 0 (by omega) (by omega) (fun i hi => by omega)
end Go.Proofs.Ytdbgmcgjklmkkaa.Q6Hist

/- Chapter 6: tables of kinds: the plain functions of the program and of the reference agree, and the laws answer true. (Q6Ban) No condition but those of each theorem. -/
namespace Go.Proofs.Ytdbgmcgjklmkkaa.Q6Ban
set_option linter.unusedVariables false
set_option linter.unusedSimpArgs false
open Go.RowKit
open Go.Proofs.Ytdbgmcgjklmkkaa.GoP Go.Proofs.Ytdbgmcgjklmkkaa.PlainStamp Go.Proofs.Ytdbgmcgjklmkkaa.QBase Go.Proofs.Ytdbgmcgjklmkkaa.Q6Hist Go.Proofs.Ytdbgmcgjklmkkaa.QLoop Go.Proofs.Ytdbgmcgjklmkkaa.QAll Go.Proofs.Ytdbgmcgjklmkkaa.PBan

def okS (s : List Int) : Bool := allN s.length fun i => match s[i]? with | some z => inB z 1 5 | none => true
theorem okS_at {s : List Int} (h : okS s = true) {i : Nat} {z : Int} (hz : s[i]? = some z) : 1 ≤ z ∧ z ≤ 5 := by
  have := allN_iff.1 h i (List.getElem?_eq_some_iff.1 hz).1
  simp only [hz] at this
  exact inB_of this
def hasV (s : List Int) (a v : Int) : Bool := inB a 0 (s.length - 1) && (match s[a.toNat]? with | some z => inB v 0 (z - 1) | none => false)
theorem hasV_of {s : List Int} {a v : Int} (h : hasV s a v = true) : ∃ (k : Nat) (z : Int), a = (k : Int) ∧ k < s.length ∧ s[k]? = some z ∧ 0 ≤ v ∧ v < z := by
  unfold hasV at h
  simp only [Bool.and_eq_true] at h
  have h1 := inB_of h.1
  obtain ⟨k, rfl⟩ : ∃ k : Nat, a = (k : Int) := ⟨a.toNat, by omega⟩
  obtain ⟨z, hz, _⟩ := at_lt (l := s) (k := k) (by omega)
  have h2 := h.2
  rw [Int.toNat_natCast, hz] at h2
  have := inB_of h2
  exact ⟨k, z, rfl, by omega, hz, by omega, by omega⟩
theorem hasValue_eq (s : List Int) (hs : okS s = true) (hl : s.length ≤ 9223372036854775807) (a v : Int) : GiHasValue.P s a v = some (hasV s a v) := by
  simp only [GiHasValue.P, within_eq, Option.bind_some, letK, joinK, appK, iteK_if]
  rw [wrap_in (by omega) (by omega)]
  unfold hasV
  cases h : inB a 0 (s.length - 1) with
  | false => simp
  | true =>
    have h1 := inB_of h
    obtain ⟨k, rfl⟩ : ∃ k : Nat, a = (k : Int) := ⟨a.toNat, by omega⟩
    obtain ⟨z, hz, hi⟩ := at_lt (l := s) (k := k) (by omega)
    have hz2 := okS_at hs hz
    simp only [hi, Option.bind_some, Int.toNat_natCast, hz, if_true, Bool.true_and]
    rw [wrap_in (by omega) (by omega)]
def okB (s : List Int) (b : Ban) : Bool := decide (b.a < b.b) && hasV s b.a b.x && hasV s b.b b.y
theorem isBan_eq (s : List Int) (hs : okS s = true) (hl : s.length ≤ 9223372036854775807) (b : Ban) : GiIsBan.P s b = some (okB s b) := by
  obtain ⟨a, x, c, y⟩ := b
  simp only [GiIsBan.P, unBan, hasValue_eq s hs hl, Option.bind_some, letK, joinK, appK, iteK_if, okB]
  by_cases h : a < c <;> cases hasV s a x <;> cases hasV s c y <;> simp [h]
theorem l6Ban_eq (s : List Int) (hs : okS s = true) (hl : s.length ≤ 9223372036854775807) (b : Ban) : GsL6Ban.P s b = some (okB s b) := by
  obtain ⟨a, x, c, y⟩ := b
  simp only [GsL6Ban.P, unBan, l1In_eq, Option.bind_some, letK, joinK, appK, iteK_if, okB, hasV]
  by_cases h1 : 0 ≤ a
  · by_cases h2 : a < c
    · by_cases h3 : c < (s.length : Int)
      · obtain ⟨i, rfl⟩ : ∃ k : Nat, a = (k : Int) := ⟨a.toNat, by omega⟩
        obtain ⟨j, rfl⟩ : ∃ k : Nat, c = (k : Int) := ⟨c.toNat, by omega⟩
        obtain ⟨z, hz, hi⟩ := at_lt (l := s) (k := i) (by omega)
        obtain ⟨u, hu, hj⟩ := at_lt (l := s) (k := j) (by omega)
        have hz2 := okS_at hs hz
        have hu2 := okS_at hs hu
        have e1 : inB (i : Int) 0 (s.length - 1) = true := by unfold inB; simp; omega
        have e2 : inB (j : Int) 0 (s.length - 1) = true := by unfold inB; simp; omega
        simp only [h1, h2, h3, decide_true, if_true, hi, hj, Option.bind_some, Int.toNat_natCast, hz, hu, e1, e2, Bool.true_and]
        rw [wrap_in (x := z - 1) (by omega) (by omega), wrap_in (x := u - 1) (by omega) (by omega)]
        cases inB x 0 (z - 1) <;> simp
      · have e2 : inB c 0 (s.length - 1) = false := by unfold inB; simp; omega
        simp [h1, h2, h3, e2]
    · simp [h1, h2]
  · have e1 : inB a 0 (s.length - 1) = false := by unfold inB; simp; omega
    simp [h1, e1]
def code (b : Ban) : Int := 1000 * b.a + 100 * b.x + 10 * b.b + b.y
theorem okB_in {s : List Int} (hs : okS s = true) (hl : s.length ≤ 5) {b : Ban} (h : okB s b = true) : 0 ≤ b.a ∧ b.a < b.b ∧ b.b ≤ 4 ∧ b.b < s.length ∧ 0 ≤ b.x ∧ b.x ≤ 4 ∧ 0 ≤ b.y ∧ b.y ≤ 4 := by
  unfold okB at h
  simp only [Bool.and_eq_true, decide_eq_true_eq] at h
  obtain ⟨k, z, e1, k1, hz, v1, v2⟩ := hasV_of h.1.2
  obtain ⟨j, u, e2, k2, hu, v3, v4⟩ := hasV_of h.2
  have := okS_at hs hz
  have := okS_at hs hu
  omega
theorem l6Code_eq {s : List Int} (hs : okS s = true) (hl : s.length ≤ 5) {b : Ban} (h : okB s b = true) : GsL6Code.P b = some (code b) := by
  have := okB_in hs hl h
  obtain ⟨a, x, c, y⟩ := b
  dsimp only at this
  simp only [GsL6Code.P, unBan, letK, code]
  rw [wrap_in (x := 1000 * a) (by omega) (by omega), wrap_in (x := 100 * x) (by omega) (by omega), wrap_in (x := 1000 * a + 100 * x) (by omega) (by omega), wrap_in (x := 10 * c) (by omega) (by omega), wrap_in (x := 1000 * a + 100 * x + 10 * c) (by omega) (by omega), wrap_in (by omega) (by omega)]
def cmpI (x y : Int) : Int := if x < y then -1 else if y < x then 1 else 0
theorem cmp_eq (x y : Int) : GxCmpCompareInt.P x y = some (cmpI x y) := by
  simp only [GxCmpCompareInt.P, GxCmpIsNaNInt.P, Option.bind_some, letK, iteK_if, cmpI]
  by_cases h1 : x < y
  · simp [h1]
  · by_cases h2 : y < x <;> simp [h1, h2]
theorem or_eq (a b c d : Int) : GxCmpOrInt.P [a, b, c, d] = some (if a != 0 then a else if b != 0 then b else if c != 0 then c else d) := by
  have st : ∀ m k fin, cntK (GxCmpOrInt.l0 [a, b, c, d]) (m + 1) k () fin = GxCmpOrInt.l0 [a, b, c, d] k () (fun s' => cntK (GxCmpOrInt.l0 [a, b, c, d]) m (k + 1) s' fin) fin := fun _ _ _ => rfl
  show cntK (GxCmpOrInt.l0 [a, b, c, d]) (3 + 1) 0 () (GxCmpOrInt.e0) = _
  rw [st]
  simp only [GxCmpOrInt.l0, show idx [a, b, c, d] ((0 : Nat) : Int) = some a from rfl, Option.bind_some, letK, appK, iteK_if]
  by_cases ha : (a != 0) = true
  · rw [if_pos ha, if_pos ha]
  · rw [if_neg ha, if_neg ha]
    show cntK (GxCmpOrInt.l0 [a, b, c, d]) (2 + 1) 1 () (GxCmpOrInt.e0) = _
    rw [st]
    simp only [GxCmpOrInt.l0, show idx [a, b, c, d] ((1 : Nat) : Int) = some b from rfl, Option.bind_some, letK, appK, iteK_if]
    by_cases hb : (b != 0) = true
    · rw [if_pos hb, if_pos hb]
    · rw [if_neg hb, if_neg hb]
      show cntK (GxCmpOrInt.l0 [a, b, c, d]) (1 + 1) 2 () (GxCmpOrInt.e0) = _
      rw [st]
      simp only [GxCmpOrInt.l0, show idx [a, b, c, d] ((2 : Nat) : Int) = some c from rfl, Option.bind_some, letK, appK, iteK_if]
      by_cases hc : (c != 0) = true
      · rw [if_pos hc, if_pos hc]
      · rw [if_neg hc, if_neg hc]
        show cntK (GxCmpOrInt.l0 [a, b, c, d]) (0 + 1) 3 () (GxCmpOrInt.e0) = _
        rw [st]
        simp only [GxCmpOrInt.l0, show idx [a, b, c, d] ((3 : Nat) : Int) = some d from rfl, Option.bind_some, letK, appK, iteK_if]
        by_cases hd : (d != 0) = true
        · rw [if_pos hd]
        · rw [if_neg hd]
          have : d = 0 := by simpa using hd
          rw [this]; rfl
theorem compare_eq {s : List Int} (hs : okS s = true) (hl : s.length ≤ 5) {r b : Ban} (hr : okB s r = true) (hb : okB s b = true) : ∃ c, GiCompareBans.P r b = some c ∧ (0 ≤ c ↔ code b ≤ code r) ∧ (c < 0 ↔ code r < code b) ∧ (c = 0 ↔ code r = code b) := by
  have h1 := okB_in hs hl hr
  have h2 := okB_in hs hl hb
  obtain ⟨a, x, c, y⟩ := r
  obtain ⟨a', x', c', y'⟩ := b
  dsimp only at h1 h2
  simp only [GiCompareBans.P, unBan, cmp_eq, Option.bind_some, letK, or_eq]
  refine ⟨_, rfl, ?_⟩
  unfold cmpI code
  dsimp only
  by_cases p1 : a < a'
  · simp [p1]; omega
  · by_cases p2 : a' < a
    · simp [p1, p2]; omega
    · obtain rfl : a = a' := by omega
      by_cases p3 : x < x'
      · simp [p3]; omega
      · by_cases p4 : x' < x
        · simp [p3, p4]; omega
        · obtain rfl : x = x' := by omega
          by_cases p5 : c < c'
          · simp [p5]; omega
          · by_cases p6 : c' < c
            · simp [p5, p6]; omega
            · obtain rfl : c = c' := by omega
              by_cases p7 : y < y'
              · simp [p7]; omega
              · by_cases p8 : y' < y
                · simp [p7, p8]; omega
                · simp [p7, p8]; omega
end Go.Proofs.Ytdbgmcgjklmkkaa.Q6Ban

/- Chapter 6: tables of kinds: the plain functions of the program and of the reference agree, and the laws answer true. (Q6Tab) No condition but those of each theorem. -/
namespace Go.Proofs.Ytdbgmcgjklmkkaa.Q6Tab
set_option linter.unusedVariables false
set_option linter.unusedSimpArgs false
open Go.RowKit
open Go.Proofs.Ytdbgmcgjklmkkaa.GoP Go.Proofs.Ytdbgmcgjklmkkaa.PlainStamp Go.Proofs.Ytdbgmcgjklmkkaa.QBase Go.Proofs.Ytdbgmcgjklmkkaa.Q6Ban Go.Proofs.Ytdbgmcgjklmkkaa.Q6Hist Go.Proofs.Ytdbgmcgjklmkkaa.QLoop Go.Proofs.Ytdbgmcgjklmkkaa.QAll Go.Proofs.Ytdbgmcgjklmkkaa.PBan

def upB (s : List Int) (l : List Ban) (k : Nat) : Bool := upAt (okB s) code l k
def okT (s : List Int) (l : List Ban) : Bool := inB s.length 1 5 && decide (l.length ≤ 20) && okS s && allN l.length (upB s l)
theorem okT_of {s : List Int} {l : List Ban} (h : okT s l = true) : 1 ≤ s.length ∧ s.length ≤ 5 ∧ l.length ≤ 20 ∧ okS s = true ∧ ∀ b ∈ l, okB s b = true := by
  unfold okT at h
  simp only [Bool.and_eq_true, decide_eq_true_eq] at h
  have h1 := inB_of h.1.1.1
  refine ⟨by omega, by omega, h.1.1.2, h.1.2, fun b hb => ?_⟩
  obtain ⟨k, hk⟩ := List.getElem?_of_mem hb
  have := allN_iff.1 h.2 k (List.getElem?_eq_some_iff.1 hk).1
  unfold upB upAt at this
  rw [hk] at this
  simp only [Bool.and_eq_true] at this
  exact this.1
theorem hist_ok {s : List Int} {l : List Ban} {k : Nat} (hu : ∀ i, i < k → upB s l i = true) (hk : 0 < k) {r : Ban} (hr : l[k - 1]? = some r) : okB s r = true := by
  have := hu (k - 1) (by omega)
  unfold upB upAt at this
  rw [hr] at this
  simp only [Bool.and_eq_true] at this
  exact this.1
theorem isTable_eq (s : List Int) (l : List Ban) (hs : s.length ≤ 9223372036854775807) (hl : l.length ≤ 9223372036854775807) : GiIsKindTable.P s l = some (okT s l) := by
  simp only [GiIsKindTable.P, within_eq, Option.bind_some, letK, joinK, appK, iteK_if, okT]
  cases h1 : inB s.length 1 5 with
  | false => simp
  | true =>
    have hs5 := inB_of h1
    by_cases h2 : l.length ≤ 20
    · simp only [Bool.not_true, Bool.false_eq_true, if_false, show ¬ (20 < (l.length : Int)) by omega, decide_false, h2, decide_true, Bool.true_and]
      rw [all_cnt (p := fun i => match s[i]? with | some z => inB z 1 5 | none => true) (no := false)]
      · show (if okS s = true then _ else _) = _
        cases h3 : okS s with
        | false => simp
        | true =>
          simp only [if_true, Bool.true_and, GiIsKindTable.e0]
          rw [all_cntH (p := upB s l) (no := false)]
          · cases allN l.length (upB s l) <;> simp [GiIsKindTable.e1]
          · intro k nx hk hu
            obtain ⟨b, hb, hi⟩ := at_lt (l := l) (k := k) hk
            simp only [GiIsKindTable.l1, hi, Option.bind_some, unBan, isBan_eq s h3 (by omega), letK, joinK, appK, iteK_if]
            cases hok : okB s b with
            | false => exact ⟨fun _ => by simp, fun h => by rw [show upB s l k = false from upAt_bad hb hok] at h; exact absurd h (by simp)⟩
            | true =>
              by_cases hk0 : k = 0
              · subst hk0
                rw [show upB s l 0 = true from upAt_first hb hok]
                exact ⟨fun h => absurd h (by simp), fun _ => by simp⟩
              · obtain ⟨r, hr, _⟩ := at_lt (l := l) (k := k - 1) (by omega)
                have hrk := hist_ok hu (by omega) hr
                obtain ⟨c, hc, c1, c2, c3⟩ := compare_eq h3 (by omega) hrk hok
                rw [show upB s l k = decide (code r < code b) from upAt_next hb hr (by omega) hok]
                have hk1 : (0 : Int) < (k : Int) := by omega
                simp only [hk1, decide_true, if_true, Bool.not_true, Bool.false_eq_true, if_false]
                rw [idx_pred (by omega) (by omega) hr]
                simp only [Option.bind_some, hc]
                by_cases hlt : code r < code b
                · simp [hlt, show ¬ 0 ≤ c by omega]
                · simp [hlt, show 0 ≤ c by omega]
      · intro k nx hk
        obtain ⟨z, hz, hi⟩ := at_lt (l := s) (k := k) hk
        simp only [GiIsKindTable.l0, hi, Option.bind_some, within_eq, letK, appK, iteK_if, hz]
        exact ⟨fun h => by simp [h], fun h => by simp [h]⟩
    · simp [h2, show (20 < (l.length : Int)) by omega]
theorem l6Good_eq (fuel : Nat) (hf : 21 ≤ fuel) (s : List Int) (l : List Ban) (hs : s.length ≤ 9223372036854775807) (hl : l.length ≤ 9223372036854775807) : GsL6Good.P fuel s l = some (okT s l) := by
  simp only [GsL6Good.P, l1In_eq, Option.bind_some, letK, joinK, appK, iteK_if, okT]
  cases h1 : inB s.length 1 5 with
  | false => simp
  | true =>
    have hs5 := inB_of h1
    by_cases h2 : l.length ≤ 20
    · simp only [Bool.not_true, Bool.false_eq_true, if_false, show ¬ (20 < (l.length : Int)) by omega, decide_false, h2, decide_true, Bool.true_and]
      rw [all_lp (n := s.length) (p := fun i => match s[i]? with | some z => inB z 1 5 | none => true) (no := false)]
      · show (if okS s = true then _ else _) = _
        cases h3 : okS s with
        | false => simp
        | true =>
          simp only [if_true, Bool.true_and, GsL6Good.e0, letK]
          rw [all_lpH (n := l.length) (p := upB s l) (no := false)]
          · cases allN l.length (upB s l) <;> simp [GsL6Good.e1, letK]
          · intro k nx hk hu
            obtain ⟨b, hb, hi⟩ := at_lt (l := l) (k := k) hk
            have hlt0 : (k : Int) < (l.length : Int) := by omega
            simp only [GsL6Good.l1, letK, hlt0, decide_true, hi, Option.bind_some, unBan, l6Ban_eq s h3 (by omega), joinK, appK, iteK_if, if_true]
            rw [next_i (by omega)]
            cases hok : okB s b with
            | false => exact ⟨fun _ => by simp, fun h => by rw [show upB s l k = false from upAt_bad hb hok] at h; exact absurd h (by simp)⟩
            | true =>
              by_cases hk0 : k = 0
              · subst hk0
                rw [show upB s l 0 = true from upAt_first hb hok]
                exact ⟨fun h => absurd h (by simp), fun _ => by simp⟩
              · obtain ⟨r, hr, _⟩ := at_lt (l := l) (k := k - 1) (by omega)
                have hrk := hist_ok hu (by omega) hr
                have e1 := l6Code_eq h3 (by omega) hrk
                have e2 := l6Code_eq h3 (by omega) hok
                rw [show upB s l k = decide (code r < code b) from upAt_next hb hr (by omega) hok]
                have hk1 : (0 : Int) < (k : Int) := by omega
                simp only [hk1, decide_true, if_true, Bool.not_true, Bool.false_eq_true, if_false]
                rw [idx_pred (by omega) (by omega) hr]
                simp only [Option.bind_some, e1, e2]
                by_cases hlt : code r < code b
                · simp [hlt, show ¬ code b ≤ code r by omega]
                · simp [hlt, show code b ≤ code r by omega]
          · intro nx
            simp [GsL6Good.l1, letK, appK, iteK_if]
          · omega
      · intro k nx hk
        obtain ⟨z, hz, hi⟩ := at_lt (l := s) (k := k) hk
        have hlt0 : (k : Int) < (s.length : Int) := by omega
        simp only [GsL6Good.l0, letK, hlt0, decide_true, hi, Option.bind_some, l1In_eq, appK, iteK_if, hz, if_true]
        rw [next_i (by omega)]
        exact ⟨fun h => by simp [h], fun h => by simp [h]⟩
      · intro nx
        simp [GsL6Good.l0, letK, appK, iteK_if]
      · omega
    · simp [h2, show (20 < (l.length : Int)) by omega]
end Go.Proofs.Ytdbgmcgjklmkkaa.Q6Tab

/- Chapter 6: tables of kinds: the plain functions of the program and of the reference agree, and the laws answer true. (Q6Kind) No condition but those of each theorem. -/
namespace Go.Proofs.Ytdbgmcgjklmkkaa.Q6Kind
set_option linter.unusedVariables false
set_option linter.unusedSimpArgs false
open Go.RowKit
open Go.Proofs.Ytdbgmcgjklmkkaa.GoP Go.Proofs.Ytdbgmcgjklmkkaa.PlainStamp Go.Proofs.Ytdbgmcgjklmkkaa.QBase Go.Proofs.Ytdbgmcgjklmkkaa.Q6Tab Go.Proofs.Ytdbgmcgjklmkkaa.Q6Ban Go.Proofs.Ytdbgmcgjklmkkaa.QLoop Go.Proofs.Ytdbgmcgjklmkkaa.QAll Go.Proofs.Ytdbgmcgjklmkkaa.PBan

def okV (s k : List Int) (i : Nat) : Bool := match s[i]?, k[i]? with | some z, some v => inB v 0 (z - 1) | _, _ => true
def okK (s k : List Int) : Bool := decide (k.length = s.length) && allN k.length (okV s k)
theorem okK_len {s k : List Int} (h : okK s k = true) : k.length = s.length := by
  unfold okK at h; simp only [Bool.and_eq_true, decide_eq_true_eq] at h; exact h.1
theorem okK_at {s k : List Int} (h : okK s k = true) {i : Nat} {z v : Int} (hz : s[i]? = some z) (hv : k[i]? = some v) : 0 ≤ v ∧ v < z := by
  unfold okK at h
  simp only [Bool.and_eq_true, decide_eq_true_eq] at h
  have := allN_iff.1 h.2 i (List.getElem?_eq_some_iff.1 hv).1
  unfold okV at this
  rw [hz, hv] at this
  have := inB_of this
  omega
theorem okK_mk {s k : List Int} (hl : k.length = s.length) (h : ∀ (i : Nat) (z v : Int), s[i]? = some z → k[i]? = some v → 0 ≤ v ∧ v < z) : okK s k = true := by
  unfold okK
  simp only [Bool.and_eq_true, decide_eq_true_eq]
  refine ⟨hl, allN_iff.2 fun i hi => ?_⟩
  obtain ⟨v, hv, _⟩ := at_lt (l := k) (k := i) hi
  obtain ⟨z, hz, _⟩ := at_lt (l := s) (k := i) (by omega)
  unfold okV
  rw [hz, hv]
  have := h i z v hz hv
  exact inB_yes (by omega) (by omega)
def frb (k : List Int) (b : Ban) : Bool := (k[b.a.toNat]?.getD 0 == b.x) && (k[b.b.toNat]?.getD 0 == b.y)
def free (l : List Ban) (k : List Int) : Bool := l.all fun b => !frb k b
theorem okB_nat {s : List Int} (hs : okS s = true) (hl : s.length ≤ 5) {b : Ban} (h : okB s b = true) : ∃ i j : Nat, b.a = (i : Int) ∧ b.b = (j : Int) ∧ i < j ∧ j < s.length := by
  have := okB_in hs hl h
  exact ⟨b.a.toNat, b.b.toNat, by omega, by omega, by omega, by omega⟩
theorem forbids_eq {s : List Int} (hs : okS s = true) (hl : s.length ≤ 5) {b : Ban} (h : okB s b = true) {k : List Int} (hk : k.length = s.length) : GiForbids.P b k = some (frb k b) := by
  obtain ⟨i, j, h1, h2, h3, h4⟩ := okB_nat hs hl h
  obtain ⟨a, x, c, y⟩ := b
  dsimp only at h1 h2
  subst h1; subst h2
  obtain ⟨u, hu, hui⟩ := at_lt (l := k) (k := i) (by omega)
  obtain ⟨v, hv, hvi⟩ := at_lt (l := k) (k := j) (by omega)
  simp only [GiForbids.P, unBan, hui, hvi, Option.bind_some, letK, joinK, appK, iteK_if, frb, Int.toNat_natCast, hu, hv, Option.getD_some]
  cases u == x <;> simp
theorem bans_at {s : List Int} {l : List Ban} (ht : okT s l = true) {i : Nat} {b : Ban} (hb : l[i]? = some b) : okB s b = true := (okT_of ht).2.2.2.2 b (List.mem_of_getElem? hb)
theorem free_allN (l : List Ban) (k : List Int) : free l k = allN l.length fun i => match l[i]? with | some b => !frb k b | none => true := by
  rw [Bool.eq_iff_iff, allN_iff]
  unfold free
  rw [List.all_eq_true]
  constructor
  · intro h i hi
    obtain ⟨b, hb, _⟩ := at_lt (l := l) (k := i) hi
    simp only [hb]
    exact h b (List.mem_of_getElem? hb)
  · intro h b hb
    obtain ⟨i, hi⟩ := List.getElem?_of_mem hb
    have := h i (List.getElem?_eq_some_iff.1 hi).1
    simpa only [hi] using this
theorem l6Free_eq {s : List Int} {l : List Ban} (ht : okT s l = true) {k : List Int} (hk : k.length = s.length) (fuel : Nat) (hf : 21 ≤ fuel) : GsL6Free.P fuel s l k = some (free l k) := by
  obtain ⟨t1, t2, t3, t4, t5⟩ := okT_of ht
  simp only [GsL6Free.P]
  rw [all_lp (n := l.length) (p := fun i => match l[i]? with | some b => !frb k b | none => true) (no := false)]
  · rw [free_allN]
    cases allN l.length (fun i => match l[i]? with | some b => !frb k b | none => true) <;> simp [GsL6Free.e0, letK]
  · intro i nx hi
    obtain ⟨b, hb, hbi⟩ := at_lt (l := l) (k := i) hi
    obtain ⟨p, q, h1, h2, h3, h4⟩ := okB_nat t4 t2 (t5 b (List.mem_of_getElem? hb))
    have hlt0 : (i : Int) < (l.length : Int) := by omega
    simp only [hb]
    obtain ⟨a, x, c, y⟩ := b
    dsimp only at h1 h2
    subst h1; subst h2
    obtain ⟨u, hu, hui⟩ := at_lt (l := k) (k := p) (by omega)
    obtain ⟨v, hv, hvi⟩ := at_lt (l := k) (k := q) (by omega)
    simp only [GsL6Free.l0, letK, hlt0, decide_true, hbi, Option.bind_some, unBan, hui, hvi, joinK, appK, iteK_if, if_true, frb, Int.toNat_natCast, hu, hv, Option.getD_some]
    rw [next_i (by omega)]
    cases u == x <;> cases v == y <;> simp
  · intro nx
    simp [GsL6Free.l0, letK, appK, iteK_if]
  · omega
end Go.Proofs.Ytdbgmcgjklmkkaa.Q6Kind

/- Chapter 6: kinds in their order, as numbers: the program's search and the reference's. (Q6Num) No condition but those of each theorem. -/
namespace Go.Proofs.Ytdbgmcgjklmkkaa.Q6Num
set_option linter.unusedVariables false
set_option linter.unusedSimpArgs false
open Go.RowKit
open Go.Proofs.Ytdbgmcgjklmkkaa.GoP Go.Proofs.Ytdbgmcgjklmkkaa.PlainStamp Go.Proofs.Ytdbgmcgjklmkkaa.QBase Go.Proofs.Ytdbgmcgjklmkkaa.Q6Kind Go.Proofs.Ytdbgmcgjklmkkaa.Q6Tab Go.Proofs.Ytdbgmcgjklmkkaa.Q6Ban Go.Proofs.Ytdbgmcgjklmkkaa.QLoop Go.Proofs.Ytdbgmcgjklmkkaa.QAll Go.Proofs.Ytdbgmcgjklmkkaa.PBan

def prod : List Int → Int
  | [] => 1
  | z :: s => z * prod s
def num : List Int → List Int → Int
  | z :: s, v :: k => v * prod s + num s k
  | _, _ => 0
def pos (s : List Int) : Prop := ∀ z ∈ s, 0 < z
theorem pos_of {s : List Int} (h : okS s = true) : pos s := by
  intro z hz
  obtain ⟨i, hi⟩ := List.getElem?_of_mem hz
  have := okS_at h hi
  omega
theorem pos_take {s : List Int} (h : pos s) (n : Nat) : pos (s.take n) := fun z hz => h z (List.mem_of_mem_take hz)
theorem pos_drop {s : List Int} (h : pos s) (n : Nat) : pos (s.drop n) := fun z hz => h z (List.mem_of_mem_drop hz)
theorem prod_pos {s : List Int} (h : pos s) : 0 < prod s := by
  induction s with
  | nil => simp [prod]
  | cons z s ih => exact Int.mul_pos (h z (by simp)) (ih (fun y hy => h y (by simp [hy])))
theorem okK_cons {z v : Int} {s k : List Int} : okK (z :: s) (v :: k) = true ↔ (0 ≤ v ∧ v < z) ∧ okK s k = true := by
  constructor
  · intro h
    refine ⟨okK_at h (i := 0) rfl rfl, okK_mk (by have := okK_len h; simpa using this) fun i z' v' hz hv => okK_at h (i := i + 1) (by simpa using hz) (by simpa using hv)⟩
  · rintro ⟨h1, h2⟩
    refine okK_mk (by have := okK_len h2; simpa using this) fun i z' v' hz hv => ?_
    cases i with
    | zero =>
      simp only [List.getElem?_cons_zero, Option.some.injEq] at hz hv
      subst hz; subst hv; exact h1
    | succ i => exact okK_at h2 (i := i) (by simpa using hz) (by simpa using hv)
theorem okK_nil : okK [] [] = true := okK_mk rfl fun i z v hz _ => by simp at hz
theorem num_range : ∀ {s k : List Int}, pos s → okK s k = true → 0 ≤ num s k ∧ num s k < prod s := by
  intro s
  induction s with
  | nil =>
    intro k _ h
    have := okK_len h
    cases k with
    | nil => simp [num, prod]
    | cons v k => simp at this
  | cons z s ih =>
    intro k hp h
    cases k with
    | nil => have := okK_len h; simp at this
    | cons v k =>
      obtain ⟨h1, h2⟩ := okK_cons.1 h
      have hp2 : pos s := fun y hy => hp y (by simp [hy])
      obtain ⟨h3, h4⟩ := ih hp2 h2
      have hP := prod_pos hp2
      simp only [num, prod]
      have e1 : 0 ≤ v * prod s := Int.mul_nonneg h1.1 (by omega)
      have e2 : (v + 1) * prod s ≤ z * prod s := Int.mul_le_mul_of_nonneg_right (by omega) (by omega)
      rw [Int.add_mul, Int.one_mul] at e2
      omega
theorem num_inj : ∀ {s k k' : List Int}, pos s → okK s k = true → okK s k' = true → num s k = num s k' → k = k' := by
  intro s
  induction s with
  | nil =>
    intro k k' _ h h' _
    have e1 := okK_len h
    have e2 := okK_len h'
    rw [List.eq_nil_of_length_eq_zero e1, List.eq_nil_of_length_eq_zero e2]
  | cons z s ih =>
    intro k k' hp h h' e
    have hp2 : pos s := fun y hy => hp y (by simp [hy])
    cases k with
    | nil => have := okK_len h; simp at this
    | cons v k =>
      cases k' with
      | nil => have := okK_len h'; simp at this
      | cons v' k' =>
        obtain ⟨h1, h2⟩ := okK_cons.1 h
        obtain ⟨h3, h4⟩ := okK_cons.1 h'
        have r1 := num_range hp2 h2
        have r2 := num_range hp2 h4
        simp only [num] at e
        have hv : v = v' := by
          rcases Int.lt_trichotomy v v' with hl | hl | hl
          · have e2 : (v + 1) * prod s ≤ v' * prod s := Int.mul_le_mul_of_nonneg_right (by omega) (by omega)
            rw [Int.add_mul, Int.one_mul] at e2
            omega
          · exact hl
          · have e2 : (v' + 1) * prod s ≤ v * prod s := Int.mul_le_mul_of_nonneg_right (by omega) (by omega)
            rw [Int.add_mul, Int.one_mul] at e2
            omega
        subst hv
        rw [ih hp2 h2 h4 (by omega)]
theorem prod_append (s1 s2 : List Int) : prod (s1 ++ s2) = prod s1 * prod s2 := by
  induction s1 with
  | nil => simp [prod]
  | cons z s ih => simp only [List.cons_append, prod, ih, Int.mul_assoc]
theorem num_append : ∀ {s1 k1 : List Int} (s2 k2 : List Int), k1.length = s1.length → num (s1 ++ s2) (k1 ++ k2) = num s1 k1 * prod s2 + num s2 k2 := by
  intro s1
  induction s1 with
  | nil => intro k1 s2 k2 h; obtain rfl := List.eq_nil_of_length_eq_zero h; simp [num]
  | cons z s ih =>
    intro k1 s2 k2 h
    cases k1 with
    | nil => simp at h
    | cons v k =>
      simp only [List.cons_append, num, prod_append]
      rw [ih s2 k2 (by simpa using h), Int.add_mul, Int.mul_assoc]
      omega
theorem num_snoc {s k : List Int} (z v : Int) (h : k.length = s.length) : num (s ++ [z]) (k ++ [v]) = num s k * z + v := by
  rw [num_append [z] [v] h]
  simp [num, prod]
theorem num_zeros (s : List Int) : num s (List.replicate s.length 0) = 0 := by
  induction s with
  | nil => rfl
  | cons z s ih => simp [List.replicate_succ, num, ih]
theorem okK_zeros {s : List Int} (h : pos s) : okK s (List.replicate s.length 0) = true := by
  refine okK_mk (by simp) fun i z v hz hv => ?_
  rw [List.getElem?_replicate] at hv
  split at hv
  · obtain rfl := Option.some.inj hv
    have := h z (List.mem_of_getElem? hz)
    omega
  · cases hv
theorem okK_append : ∀ {s1 k1 s2 k2 : List Int}, okK s1 k1 = true → okK s2 k2 = true → okK (s1 ++ s2) (k1 ++ k2) = true := by
  intro s1
  induction s1 with
  | nil => intro k1 s2 k2 h h2; obtain rfl := List.eq_nil_of_length_eq_zero (okK_len h); exact h2
  | cons z s ih =>
    intro k1 s2 k2 h h2
    cases k1 with
    | nil => have := okK_len h; simp at this
    | cons v k => obtain ⟨h3, h4⟩ := okK_cons.1 h; exact okK_cons.2 ⟨h3, ih h4 h2⟩
theorem okK_take {s k : List Int} (h : okK s k = true) (n : Nat) : okK (s.take n) (k.take n) = true := by
  have hl := okK_len h
  refine okK_mk (by simp [hl]) fun i z v hz hv => ?_
  rw [List.getElem?_take] at hz hv
  split at hz
  · rename_i hi
    rw [if_pos hi] at hv
    exact okK_at h hz hv
  · cases hz
theorem okK_drop {s k : List Int} (h : okK s k = true) (n : Nat) : okK (s.drop n) (k.drop n) = true := by
  have hl := okK_len h
  refine okK_mk (by simp [hl]) fun i z v hz hv => ?_
  rw [List.getElem?_drop] at hz hv
  exact okK_at h hz hv
theorem drop_at {s : List Int} {m : Nat} {z : Int} (h : s[m]? = some z) : s.drop m = z :: s.drop (m + 1) := by
  obtain ⟨hm, e⟩ := List.getElem?_eq_some_iff.1 h
  rw [List.drop_eq_getElem_cons hm, e]
theorem prod_le {s : List Int} (h : okS s = true) (n : Nat) : prod (s.take n) ≤ 5 ^ (s.take n).length := by
  have hz : ∀ z ∈ s.take n, 1 ≤ z ∧ z ≤ 5 := by
    intro z hz
    obtain ⟨i, hi⟩ := List.getElem?_of_mem (List.mem_of_mem_take hz)
    exact okS_at h hi
  generalize s.take n = t at hz
  induction t with
  | nil => simp [prod]
  | cons z t ih =>
    have h1 := hz z (by simp)
    have h2 := ih (fun y hy => hz y (by simp [hy]))
    have hp : 0 < prod t := prod_pos (fun y hy => by have := hz y (by simp [hy]); omega)
    simp only [prod, List.length_cons]
    have e1 : z * prod t ≤ 5 * prod t := Int.mul_le_mul_of_nonneg_right (by omega) (by omega)
    have e2 : (5 : Int) ^ (t.length + 1) = 5 ^ t.length * 5 := Int.pow_succ _ _
    omega
theorem prod_small {s : List Int} (h : okS s = true) (hl : s.length ≤ 5) (n : Nat) : prod (s.take n) ≤ 3125 := by
  have h1 := prod_le h n
  have h2 : (s.take n).length ≤ 5 := by rw [List.length_take]; omega
  generalize (s.take n).length = m at h1 h2
  have : m = 0 ∨ m = 1 ∨ m = 2 ∨ m = 3 ∨ m = 4 ∨ m = 5 := by omega
  rcases this with rfl | rfl | rfl | rfl | rfl | rfl
  all_goals (have e0 : (5 : Int) ^ 0 = 1 := rfl; have e1 : (5 : Int) ^ 1 = 5 := rfl; have e2 : (5 : Int) ^ 2 = 25 := rfl; have e3 : (5 : Int) ^ 3 = 125 := rfl; have e4 : (5 : Int) ^ 4 = 625 := rfl; have e5 : (5 : Int) ^ 5 = 3125 := rfl; omega)
theorem prod_small' {s : List Int} (h : okS s = true) (hl : s.length ≤ 5) : prod s ≤ 3125 := by
  have := prod_small h hl s.length
  rwa [List.take_length] at this
theorem set_mid {k r : List Int} {m : Nat} {v x : Int} (hv : k[m]? = some v) : (k.take (m + 1) ++ r).set m x = k.take m ++ (x :: r) := by
  have hm := (List.getElem?_eq_some_iff.1 hv).1
  rw [take_next hv, List.append_assoc, List.set_append_right _ _ (by rw [List.length_take]; omega), List.length_take, Nat.min_eq_left (by omega), Nat.sub_self]
  rfl
theorem idx_mid {k r : List Int} {m : Nat} {x : Int} (hm : m ≤ k.length) : idx (k.take m ++ (x :: r)) (m : Int) = some x := by
  rw [idx_nat, List.getElem?_append_right (by rw [List.length_take]; omega), List.length_take, Nat.min_eq_left hm, Nat.sub_self]
  rfl
/-- all kinds up to M with the same values up to t -/
def blockEnd (s k : List Int) (t : Nat) : Int := (num (s.take (t + 1)) (k.take (t + 1)) + 1) * prod (s.drop (t + 1))
theorem block_same {s k u : List Int} (hp : pos s) (hk : okK s k = true) (hu : okK s u = true) {t : Nat} (h1 : num s k ≤ num s u) (h2 : num s u < blockEnd s k t) : u.take (t + 1) = k.take (t + 1) := by
  unfold blockEnd at h2
  have a1 := okK_take hk (t + 1)
  have a2 := okK_take hu (t + 1)
  have b1 := num_range (pos_drop hp (t + 1)) (okK_drop hk (t + 1))
  have b2 := num_range (pos_drop hp (t + 1)) (okK_drop hu (t + 1))
  have e1 := num_append (s.drop (t + 1)) (k.drop (t + 1)) (okK_len a1)
  have e2 := num_append (s.drop (t + 1)) (u.drop (t + 1)) (okK_len a2)
  rw [List.take_append_drop, List.take_append_drop] at e1 e2
  generalize prod (s.drop (t + 1)) = P at *
  have hlt : num (s.take (t + 1)) (u.take (t + 1)) < num (s.take (t + 1)) (k.take (t + 1)) + 1 := by
    rcases Int.lt_or_le (num (s.take (t + 1)) (u.take (t + 1))) (num (s.take (t + 1)) (k.take (t + 1)) + 1) with h | h
    · exact h
    · have := Int.mul_le_mul_of_nonneg_right h (show 0 ≤ P by omega)
      omega
  have hge : num (s.take (t + 1)) (k.take (t + 1)) < num (s.take (t + 1)) (u.take (t + 1)) + 1 := by
    rcases Int.lt_or_le (num (s.take (t + 1)) (k.take (t + 1))) (num (s.take (t + 1)) (u.take (t + 1)) + 1) with h | h
    · exact h
    · have := Int.mul_le_mul_of_nonneg_right h (show 0 ≤ P by omega)
      rw [Int.add_mul, Int.one_mul] at this
      omega
  exact num_inj (pos_take hp (t + 1)) a2 a1 (by omega)
theorem block_after {s k : List Int} (hp : pos s) (hk : okK s k = true) (t : Nat) : num s k < blockEnd s k t := by
  unfold blockEnd
  have a1 := okK_take hk (t + 1)
  have b1 := num_range (pos_drop hp (t + 1)) (okK_drop hk (t + 1))
  have e1 := num_append (s.drop (t + 1)) (k.drop (t + 1)) (okK_len a1)
  rw [List.take_append_drop, List.take_append_drop] at e1
  rw [Int.add_mul, Int.one_mul]
  omega
theorem frb_take {s k u : List Int} (hs : okS s = true) (hl : s.length ≤ 5) {b : Ban} (hb : okB s b = true) {t : Nat} (ht : b.b = (t : Int)) (h : u.take (t + 1) = k.take (t + 1)) : frb u b = frb k b := by
  obtain ⟨i, j, h1, h2, h3, h4⟩ := okB_nat hs hl hb
  obtain rfl : j = t := by omega
  have e : ∀ q, q < j + 1 → u[q]? = k[q]? := by
    intro q hq
    have := congrArg (fun l => l[q]?) h
    simp only [List.getElem?_take, if_pos hq] at this
    exact this
  unfold frb
  rw [h1, h2, Int.toNat_natCast, Int.toNat_natCast, e i (by omega), e j (by omega)]
end Go.Proofs.Ytdbgmcgjklmkkaa.Q6Num

