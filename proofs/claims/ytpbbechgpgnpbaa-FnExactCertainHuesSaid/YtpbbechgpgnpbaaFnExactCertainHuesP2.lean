/- The texts on which the proof of FnExactCertainHues stands, one behind the other (2 of 2). No condition of their own. -/
import Derived.Test.YtpbbechgpgnpbaaFnExactCertainHuesP1
import Derived.Deep.AppendLies
import Derived.Test.YtpbbechgpgnpbaaChecked
import Derived.WalkKit
import Derived.WalkSpells
import Derived.WalkLawsBesides
import Derived.BigQuiet
import Derived.OwnWalk
import Derived.IntWalk
import Derived.Deep.RegionHeld3
import Derived.Deep.LoopGhost
import Derived.Deep.QuietTactic
import Derived.Lib.QuietBelow
/- Rows of records in one's own memory: clear of a tail; a part taken out (append(s[:i], s[j:]...), clear of what is left behind). No condition. -/
namespace Go.Proofs.Ytpbbechgpgnpbaa.GoD
set_option linter.unusedVariables false
set_option linter.unusedSimpArgs false
open Go.RowKit
open Go.Proofs.Ytpbbechgpgnpbaa.Turn Go.Proofs.Ytpbbechgpgnpbaa.GoM Go.Proofs.Ytpbbechgpgnpbaa.GoK

theorem flatten_rep (zs : List Value) : ∀ (n i : Nat), (List.replicate n zs).flatten[i]? = if i < n * zs.length then some zs[i % zs.length]! else none
  | 0, i => by simp
  | n + 1, i => by
    rw [List.replicate_succ, List.flatten_cons]
    by_cases hi : i < zs.length
    · rw [List.getElem?_append_left hi, Nat.mod_eq_of_lt hi, if_pos (by rw [Nat.succ_mul]; omega), List.getElem?_eq_getElem hi]
      simp [getElem!_pos, hi]
    · have h1 : (i - zs.length < n * zs.length) ↔ (i < (n + 1) * zs.length) := by rw [Nat.succ_mul]; omega
      have h2 : (i - zs.length) % zs.length = i % zs.length := (Nat.mod_eq_sub_mod (by omega)).symm
      rw [List.getElem?_append_right (by omega), flatten_rep zs n (i - zs.length), h2]
      simp only [h1]
theorem rep_len (zs : List Value) (n : Nat) : (List.replicate n zs).flatten.length = n * zs.length := by simp
theorem zero_list (zs : List Value) (n : Nat) : (Builtin.zeroCells zs.toArray n).toList = (List.replicate n zs).flatten := by
  apply List.ext_getElem?
  intro i
  rw [flatten_rep]
  unfold Builtin.zeroCells
  by_cases hi : i < n * zs.length
  · rw [if_pos hi]; simp [hi]
  · rw [if_neg hi, List.getElem?_eq_none (by simp; omega)]
theorem run_clearK {P : Program} (w : World) (t e ty : TypeId) (z : Value) (zs : List Value) (ht : P.underlying t = some (.slice e)) (hv : ∀ w, (zeroValue e).run P w = .ok z w) (hz : z.cells = zs.toArray) (h1 : ∀ u ∈ zs, u.oneCell' = true) (b o n c : Nat) (hn : 0 < n)
    (hc : ∀ j, j < n * zs.length → (w.cell? ⟨b, o + j, none⟩).isSome = true) (hf : ∀ j, j < n * zs.length → w.frozen? ⟨b, o + j, none⟩ = false) :
    (Builtin.clear_ #[t] ty #[.slice (some ⟨b, o, none⟩) n c]).run P w = .ok (.tuple #[]) (w.setCells b o (List.replicate n zs).flatten) := by
  have hl := rep_len zs n
  have hst := run_storeCells_cells (P := P) b o (List.replicate n zs).flatten 0 w (by rw [hl]; simpa using hc) (by rw [hl]; simpa using hf)
    (by intro v hv'; obtain ⟨l, hl1, hl2⟩ := List.mem_flatten.1 hv'; rw [List.eq_of_mem_replicate hl1] at hl2; exact h1 v hl2)
  simp only [Nat.add_zero] at hst
  have hzl := zero_list zs n
  obtain ⟨m, rfl⟩ : ∃ m, n = m + 1 := ⟨n - 1, by omega⟩
  simp [Builtin.clear_, run_underlying ht, hv, hz, hzl, hst]
theorem flat_clear {α : Type} (f : α → List Value) (K : Nat) (hK : ∀ x, (f x).length = K) (l : List α) (q m : Nat) (z : α) : (l.flatMap f).take (q * K) ++ (List.replicate m (f z)).flatten = (l.take q ++ List.replicate m z).flatMap f := by
  rw [flat_take f K hK, List.flatMap_append]
  congr 1
  induction m with
  | zero => rfl
  | succ m ih => rw [List.replicate_succ, List.flatten_cons, List.replicate_succ, List.flatMap_cons, ih]
/-- clear(s[lo:]) of a row of its own, of records -/
theorem own_clearK {P : Program} {t e : TypeId} {i : TypeInfo} {k : IntKind} {K n c b : Nat} {A : Option Addr} {lo : Int} {w : World} {xs ys zs : List Value} {z : Value}
    (ht : P.underlying t = some (.slice (P.elem t))) (he : P.elem t = e) (hi : P.info? e = some i) (hs : i.size = K) (hv : i.zero = some z) (hz : z.cells = zs.toArray) (hzl : zs.length = K) (hK : 0 < K) (h1 : ∀ u ∈ zs, u.oneCell' = true)
    (h : w.ownsRow b e K (.slice A n c) n xs) (hl : 0 ≤ lo ∧ lo ≤ (n : Int)) (hd : xs.take (lo.toNat * K) ++ (List.replicate (n - lo.toNat) zs).flatten = ys) :
    ∃ A' m c' w', (∀ W, (Instr.slice t (.slice A n c) (some (.int k lo)) none none).run P W = .ok (.slice A' m c') W) ∧ (∀ ty, (Builtin.clear_ #[t] ty #[.slice A' m c']).run P w = .ok (.tuple #[]) w') ∧
      w'.ownsRow b e K (.slice A n c) n ys ∧ w.grownBy w' (Value.slice A n c).ownBlock := by
  have hR := own_room h
  have hxs : xs.length = n * K := h.1
  have hsz : ∀ W, (sizeOf (P.elem t)).run P W = .ok K W := by intro W; subst he; simp [sizeOf, typeInfo, hi, hs]
  have hrun : ∀ W, (Instr.slice t (.slice A n c) (some (.int k lo)) none none).run P W = .ok (.slice (if c = lo.toNat then A else A.map (·.add (lo.toNat * K))) (n - lo.toNat) (c - lo.toNat)) W := by
    intro W
    rw [run_slice_l (P := P) W t A n c ht k lo hl.1 hl.2, hsz W]
    rfl
  by_cases hm : n - lo.toNat = 0
  · refine ⟨_, _, _, w, hrun, ?_, ?_, Aid.grown_refl _ _⟩
    · intro ty
      rw [hm]
      generalize (if c = lo.toNat then A else A.map (·.add (lo.toNat * K))) = A'
      cases A' <;> simp [Builtin.clear_, run_underlying ht]
    · have hle : n * K ≤ lo.toNat * K := Nat.mul_le_mul_right K (by omega)
      rw [← hd, hm, List.replicate_zero, List.flatten_nil, List.append_nil, List.take_of_length_le (by omega)]
      exact h
  · obtain ⟨g, rfl⟩ := own_some h (by omega)
    have hne : ¬ c = lo.toNat := by have := hR.1; omega
    have hcl := own_cells h
    have hmul : lo.toNat * K + (n - lo.toNat) * K = n * K := by rw [← Nat.add_mul]; congr 1; omega
    have hget : ∀ j, j < n * K → (w.cell? ⟨g, j, none⟩).isSome = true := by
      intro j hj
      obtain ⟨ad, e0, hc⟩ := hcl.2 (by omega)
      obtain rfl := Option.some.inj e0
      have := hc j xs[j] (List.getElem?_eq_getElem (by omega))
      rw [add_flat, Nat.zero_add] at this
      rw [this]; rfl
    have hadd : (if c = lo.toNat then (some ⟨g, 0, none⟩ : Option Addr) else (some ⟨g, 0, none⟩ : Option Addr).map (·.add (lo.toNat * K))) = some ⟨g, lo.toNat * K, none⟩ := by
      rw [if_neg hne, Option.map_some, add_flat, Nat.zero_add]
    rw [hadd] at hrun
    have hrl : (List.replicate (n - lo.toNat) zs).flatten.length = (n - lo.toNat) * K := by rw [rep_len, hzl]
    have h2 := own_setCells (List.replicate (n - lo.toNat) zs).flatten (lo.toNat * K) h (by rw [hrl]; omega)
    refine ⟨_, _, _, _, hrun, fun ty => ?_, ?_, h2.2⟩
    · exact run_clearK w t e ty z zs (he ▸ ht) (fun w => by simp [zeroValue, typeInfo, hi, hv]) hz h1 g (lo.toNat * K) (n - lo.toNat) (c - lo.toNat) (by omega) (fun j hj => hget _ (by rw [hzl] at hj; omega)) (fun j hj => h.frozenAt _)
    · have e2 : xs.take (lo.toNat * K) ++ (List.replicate (n - lo.toNat) zs).flatten ++ xs.drop (lo.toNat * K + (List.replicate (n - lo.toNat) zs).flatten.length) = ys := by
        rw [hrl, List.drop_of_length_le (by omega), List.append_nil, hd]
      rw [← e2]
      exact h2.1
/-- a part of a row of its own is taken out: append(s[:p], s[q:]...), then clear of what is left behind -/
theorem own_cut {P : Program} {t e : TypeId} {i : TypeInfo} {K n c b : Nat} {A : Option Addr} {w : World} {xs zs : List Value} {z : Value}
    (ht : P.underlying t = some (.slice (P.elem t))) (he : P.elem t = e) (hi : P.info? e = some i) (hs : i.size = K) (hv : i.zero = some z) (hz : z.cells = zs.toArray) (hzl : zs.length = K) (hK : 0 < K) (h1 : ∀ u ∈ zs, u.oneCell' = true) (hx1 : ∀ u ∈ xs, u.oneCell' = true)
    (h : w.ownsRow b e K (.slice A n c) n xs) {p q : Nat} (hpq : p < q) (hq : q ≤ n) :
    ∃ g A1 c1 w1 w2, A = some ⟨g, 0, none⟩ ∧ (∀ W, (Instr.slice t (.slice (some ⟨g, 0, none⟩) n c) none (some (.int .i64 (p : Int))) none).run P W = .ok (.slice (some ⟨g, 0, none⟩) p c) W) ∧
      (∀ W, (Instr.slice t (.slice (some ⟨g, 0, none⟩) n c) (some (.int .i64 (q : Int))) none none).run P W = .ok (.slice A1 (n - q) c1) W) ∧
      (∀ ty, (Builtin.append_ #[t, t] ty #[.slice (some ⟨g, 0, none⟩) p c, .slice A1 (n - q) c1]).run P w = .ok (.slice (some ⟨g, 0, none⟩) (p + (n - q)) c) w1) ∧
      (∀ ty, (Builtin.clear_ #[t] ty #[.slice (some ⟨g, (p + (n - q)) * K, none⟩) (n - (p + (n - q))) (c - (p + (n - q)))]).run P w1 = .ok (.tuple #[]) w2) ∧
      w2.ownsRow b e K (.slice (some ⟨g, 0, none⟩) (p + (n - q)) c) (p + (n - q)) (xs.take (p * K) ++ xs.drop (q * K)) ∧ w.grownBy w2 (some g) := by
  have hR := own_room h
  have hxs : xs.length = n * K := h.1
  obtain ⟨g, rfl⟩ := own_some h (by omega)
  have hsz : ∀ W, (sizeOf (P.elem t)).run P W = .ok K W := by intro W; subst he; simp [sizeOf, typeInfo, hi, hs]
  have hcl := own_cells h
  have hpK : p * K + (q - p) * K = q * K := by rw [← Nat.add_mul]; congr 1; omega
  have hqK : q * K + (n - q) * K = n * K := by rw [← Nat.add_mul]; congr 1; omega
  have hmK : (p + (n - q)) * K = p * K + (n - q) * K := Nat.add_mul _ _ _
  have hmm : (p + (n - q)) * K + (q - p) * K = n * K := by rw [← Nat.add_mul]; congr 1; omega
  have r1 := (slice_head (P := P) (t := t) (k := .i64) (hi := (p : Int)) (m := p) ht he hi hs h ⟨by omega, by omega⟩ (by omega) rfl).1
  have r2 : ∀ W, (Instr.slice t (.slice (some ⟨g, 0, none⟩) n c) (some (.int .i64 (q : Int))) none none).run P W = .ok (.slice (some (if c = q then ⟨g, 0, none⟩ else ⟨g, q * K, none⟩)) (n - q) (c - q)) W := by
    intro W
    rw [run_slice_l (P := P) W t _ n c ht .i64 (q : Int) (by omega) (by omega), hsz W]
    simp only [Result.andThen, sliced, Int.toNat_natCast, Option.map_some, add_flat, Nat.zero_add]
    by_cases hcq : c = q <;> simp [hcq]
  obtain ⟨_, hown⟩ := h
  rcases hown with ⟨h0, _⟩ | ⟨g', cap, cur, e0, hb, hg, hnc, hcm, hcs, htake⟩
  · simp at h0
  simp only [Value.slice.injEq, Option.some.injEq, Addr.mk.injEq, true_and, and_true] at e0
  obtain ⟨rfl, rfl⟩ := e0
  have h : w.ownsRow b e K (.slice (some ⟨g, 0, none⟩) n c) n xs := ⟨hxs, .inr ⟨g, c, cur, rfl, hb, hg, hnc, hcm, hcs, htake⟩⟩
  have hnews : (xs.drop (q * K)).length = (n - q) * i.size := by rw [List.length_drop, hs]; omega
  have hcK : n * K ≤ c * K := Nat.mul_le_mul_right K hnc
  have hcell : ∀ j u, (xs.drop (q * K))[j]? = some u → w.cell? ((if c = q then ⟨g, 0, none⟩ else ⟨g, q * K, none⟩ : Addr).add j) = some u := by
    intro j u hu
    rw [List.getElem?_drop] at hu
    have hlt := (List.getElem?_eq_some_iff.1 hu).1
    obtain ⟨ad, ea, hc⟩ := hcl.2 (by omega)
    obtain rfl := Option.some.inj ea
    have := hc (q * K + j) u hu
    rw [add_flat, Nat.zero_add] at this
    have hne : ¬ c = q := by
      intro ec
      have : n = q := by omega
      rw [this] at hxs
      omega
    rw [if_neg hne, add_flat]
    exact this
  have hfit : p * i.size + (xs.drop (q * K)).length ≤ cur.size := by rw [hnews, hs, hcs]; omega
  have ra := fun ty => run_append_room (P := P) w t ty e i (he ▸ ht) hi g p c cur hg _ (n - q) (c - q) _ hnews hcell (fun u hu => hx1 u (List.mem_of_mem_drop hu)) (by omega) hfit
  obtain ⟨w1, hw1⟩ : ∃ x, w.setRow g (cur.toList.take (p * i.size) ++ xs.drop (q * K) ++ cur.toList.drop (p * i.size + (xs.drop (q * K)).length)).toArray = x := ⟨_, rfl⟩
  rw [hw1] at ra
  have hn2 : (xs.drop (q * K)).length = (n - q) * K := by rw [hnews, hs]
  have hcl2 : cur.toList.length = c * K := by simpa using hcs
  have hpn : p * K ≤ n * K := Nat.mul_le_mul_right K (by omega)
  have hx : ∀ m, m ≤ n * K → cur.toList.take m = xs.take m := by
    intro m hm
    rw [← htake, List.take_take, Nat.min_eq_left hm]
  have ho1 : w1.ownsRow b e K (.slice (some ⟨g, 0, none⟩) n c) n (xs.take (p * K) ++ xs.drop (q * K) ++ (cur.toList.drop (p * K + (n - q) * K)).take ((q - p) * K)) := by
    refine ⟨?_, .inr ⟨g, c, (xs.take (p * K) ++ xs.drop (q * K) ++ cur.toList.drop (p * K + (n - q) * K)).toArray, rfl, hb, ?_, hnc, hcm, ?_, ?_⟩⟩
    · rw [List.length_append, List.length_append, hn2, List.length_take, List.length_take, List.length_drop, hcl2]; omega
    · rw [← hw1, hs, hn2, hx _ hpn]; exact setRow_heap w g cur _ e _ hg
    · rw [List.size_toArray, List.length_append, List.length_append, hn2, List.length_take, List.length_drop, hcl2]; omega
    · rw [List.take_append, List.take_of_length_le (l := xs.take (p * K) ++ xs.drop (q * K)) (by rw [List.length_append, hn2, List.length_take]; omega)]
      congr 2
      rw [List.length_append, hn2, List.length_take]; omega
  have hgr1 : w.grownBy w1 (some g) := by
    rw [← hw1]
    exact ⟨rfl, rfl, rfl, by simp [World.setRow], fun k _ hk => setRow_other w g k _ (fun e => hk (by rw [e]))⟩
  have hrl : (List.replicate (q - p) zs).flatten.length = (q - p) * K := by rw [rep_len, hzl]
  have hl1 : (xs.take (p * K) ++ xs.drop (q * K) ++ (cur.toList.drop (p * K + (n - q) * K)).take ((q - p) * K)).length = n * K := ho1.1
  have hset := own_setCells (List.replicate (q - p) zs).flatten ((p + (n - q)) * K) ho1 (by rw [hrl, hl1]; omega)
  have hcl1 := own_cells ho1
  have hget : ∀ j, j < n * K → (w1.cell? ⟨g, j, none⟩).isSome = true := by
    intro j hj
    obtain ⟨ad, ea, hc⟩ := hcl1.2 (by rw [hl1]; omega)
    obtain rfl := Option.some.inj ea
    have := hc j _ (List.getElem?_eq_getElem (by rw [hl1]; exact hj))
    rw [add_flat, Nat.zero_add] at this
    rw [this]; rfl
  have hcr := fun ty => run_clearK w1 t e ty z zs (he ▸ ht) (fun w => by simp [zeroValue, typeInfo, hi, hv]) hz h1 g ((p + (n - q)) * K) (q - p) (c - (p + (n - q))) (by omega) (fun j hj => hget _ (by rw [hzl] at hj; omega)) (fun j hj => ho1.frozenAt _)
  have hcr2 : ∀ ty, (Builtin.clear_ #[t] ty #[.slice (some ⟨g, (p + (n - q)) * K, none⟩) (n - (p + (n - q))) (c - (p + (n - q)))]).run P w1 = .ok (.tuple #[]) (w1.setCells g ((p + (n - q)) * K) (List.replicate (q - p) zs).flatten) := by rw [show n - (p + (n - q)) = q - p by omega]; exact hcr
  refine ⟨g, _, _, w1, _, rfl, r1, r2, ra, hcr2, ?_, Aid.grown_tr hgr1 hset.2⟩
  have hh := (slice_head (P := P) (t := t) (k := .i64) (hi := ((p + (n - q) : Nat) : Int)) (m := p + (n - q)) ht he hi hs hset.1 ⟨by omega, by omega⟩ (by omega) rfl).2
  rw [Int.toNat_natCast, List.append_assoc, List.take_append_of_le_length (by rw [List.length_take, hl1]; omega), List.take_take, Nat.min_self, List.take_append_of_le_length (by rw [List.length_append, hn2, List.length_take]; omega), List.take_of_length_le (by rw [List.length_append, hn2, List.length_take]; omega)] at hh
  exact hh
/-- an append that is known, as one step of a region that draws its order -/
theorem step_append_run {P : Program} {w : World} {ops : Array Oper} {o : Oper} {a : Act} {K : Act → World → Prop} {Q : Exit → Act → World → Prop} {E : Prop} (hgd : o.guard = none) (s x : Operand) (t : TypeId)
    (ho : o.op = .call { callee := .builtin .append, args := #[s, x], argTypes := #[t, t] }) {sv xv v' : Value} {w' : World} (hs : a.eval s = sv) (hx : a.eval x = xv)
    (hr : ∀ ty, (Builtin.append_ #[t, t] ty #[sv, xv]).run P w = .ok v' w') (h : K (a.put o.dst v') w') :
    if Region.wanted o (yielded ops a.tmps) = true then Oper.wp P o a w K Q else E := by
  have hw : Region.wanted o (yielded ops a.tmps) = true := by simp [Region.wanted, hgd]
  rw [if_pos hw]
  unfold Oper.wp execOp
  simp only [ho, resolve, invoke, builtin, Sem.run_bind, Sem.run_pure, Result.andThen_ok, List.map_toArray, List.map_cons, List.map_nil, hs, hx, hr]
  exact h
end Go.Proofs.Ytpbbechgpgnpbaa.GoD

/- slices.Delete[[]loop.example/g01062/impl.Shade,loop.example/g01062/impl.Shade] as a plain function, and the contract of the program's: where the plain one has an answer, the program has it. Conditions: slices read as lists. -/
namespace Go.Proofs.Ytpbbechgpgnpbaa.GxSlicesDeleteLoopExampleG01062ImplShadeLoopExampleG01062ImplShade
set_option linter.unusedVariables false
set_option linter.unusedSimpArgs false
open Go.RowKit
open Go.Proofs.Ytpbbechgpgnpbaa.Rowed Go.Proofs.Ytpbbechgpgnpbaa.Turn Go.Proofs.Ytpbbechgpgnpbaa.Aid Go.Proofs.Ytpbbechgpgnpbaa.GoP Go.Proofs.Ytpbbechgpgnpbaa.GoM

def P (s_0 : (List Go.Proofs.Ytpbbechgpgnpbaa.PShade.Shade)) (i_1 : Int) (j_2 : Int) : Option (List Go.Proofs.Ytpbbechgpgnpbaa.PShade.Shade) :=
  guardK ((0 : Int) ≤ i_1 ∧ i_1 ≤ j_2 ∧ j_2 ≤ (s_0.length : Int)) <|
  some (List.take (Int.toNat i_1) s_0 ++ List.drop (Int.toNat j_2) s_0)

set_option maxRecDepth 100000 in
set_option maxHeartbeats 2000000 in
theorem C (s_0 : (List Go.Proofs.Ytpbbechgpgnpbaa.PShade.Shade)) (i_1 : Int) (j_2 : Int) (A0 : Option Addr) (c0 : Nat) (b0 : Nat) (w : World) (M0 : Hid (w.ownsRow b0 26 5 (.slice A0 s_0.length c0) s_0.length (Go.Proofs.Ytpbbechgpgnpbaa.PShade.flat s_0))) (N0 : Hid (s_0.length ≤ 9223372036854775807)) (LB : Hid (b0 ≤ w.heap.size)) {r : (List Go.Proofs.Ytpbbechgpgnpbaa.PShade.Shade)} (H : Hid (P s_0 i_1 j_2 = some r)) :
    Calls Try.prog 89 #[.slice A0 s_0.length c0, .int .i64 i_1, .int .i64 j_2] w (fun e w' => ∃ A_r c_r, e = .returned (.slice A_r r.length c_r) ∧ w'.ownsRow b0 26 5 (.slice A_r r.length c_r) r.length (Go.Proofs.Ytpbbechgpgnpbaa.PShade.flat r) ∧ w.grownBy w' (Value.slice A0 s_0.length c0).ownBlock ∧ Go.Proofs.Ytpbbechgpgnpbaa.GoK.From w A0 A_r) := by
  unfold P at H
  replace H := guard_hid H
  obtain ⟨hg, H⟩ := H
  obtain rfl := ret_hid H
  clear H
  obtain ⟨p, rfl⟩ := Int.eq_ofNat_of_zero_le hg.1
  obtain ⟨q, rfl⟩ := Int.eq_ofNat_of_zero_le (show 0 ≤ j_2 by omega)
  have hp : p ≤ q := by omega
  have hq : q ≤ s_0.length := by omega
  have N0o := N0.out
  have hR := (own_room M0.out).1
  have b0i : (0 : Int) ≤ (p : Int) := by omega
  have b1i : (p : Int) ≤ (q : Int) := by omega
  have b2i : (q : Int) ≤ ((s_0.length : Nat) : Int) := by omega
  have b3i : ((s_0.length : Nat) : Int) ≤ (c0 : Int) := by omega
  clear hg
  simp only [Int.toNat_natCast]
  obtain ⟨i0_26, hi_26, hz0_26, hz1_26, hz2_26⟩ := Aid.info_parts (P := Try.prog) (T := 26) (z := .agg #[.string ByteArray.empty, .int .i64 0, .int .i64 0, .int .i64 0, .int .i64 0]) (s := 5) (b := 48) (by kernel_rfl)
  have hsz : ∀ W, (sizeOf (Try.prog.elem 32)).run Try.prog W = .ok 5 W := by intro W; rw [show Try.prog.elem 32 = 26 by kernel_rfl]; simp [sizeOf, typeInfo, hi_26, hz1_26]
  obtain ⟨v0, r0⟩ : ∃ v0, ∀ W, (Instr.slice 32 (.slice A0 s_0.length c0) (some (.int .i64 (p : Int))) (some (.int .i64 (q : Int))) (some (.int .i64 ((s_0.length : Nat) : Int)))).run Try.prog W = .ok v0 W := by
    refine ⟨sliced A0 p q s_0.length 5, fun W => ?_⟩
    rw [run_slice_lhm (P := Try.prog) W 32 _ _ c0 (by kernel_rfl) .i64 .i64 .i64 _ _ _ b0i b1i b2i b3i, hsz W]
    rfl
  by_cases he : p = q
  · subst he
    have hl : List.take p s_0 ++ List.drop p s_0 = s_0 := List.take_append_drop _ _
    rw [hl]
    have he2 : ((p : Int) == (p : Int)) = true := by simp
    go_enter Try.func89, Try.ntmps89
    go_wp2_with fail
    go_ret
    exact ⟨A0, c0, rfl, M0.out, Aid.grown_refl _ _, Go.Proofs.Ytpbbechgpgnpbaa.GoK.from_self⟩
  · have he2 : ((p : Int) == (q : Int)) = false := by simp; omega
    have he3 : ¬ ((p : Int) = (q : Int)) := by omega
    have bd : Below w.heap.size w w.drew := (Below.refl _ _).drew
    have M1 := own_below M0.out bd
    obtain ⟨g, A1, c1, w1, w2, rfl, r1, r2, ra, rc, ho, hgr⟩ := Go.Proofs.Ytpbbechgpgnpbaa.GoD.own_cut (P := Try.prog) (t := 32) (e := 26) (zs := [.string (⟨#[]⟩ : ByteArray), .int .i64 0, .int .i64 0, .int .i64 0, .int .i64 0]) (by kernel_rfl) (by kernel_rfl) hi_26 hz1_26 hz0_26 (by rfl) (by rfl) (by decide) (by intro u_ hu_; simp only [List.mem_cons, List.not_mem_nil, or_false] at hu_; rcases hu_ with rfl | rfl | rfl | rfl | rfl <;> rfl) (fun u hu => by obtain ⟨y_, _, hy_⟩ := List.mem_flatMap.1 hu; simp only [Go.Proofs.Ytpbbechgpgnpbaa.PShade.Shade.cells, List.mem_cons, List.not_mem_nil, or_false] at hy_; rcases hy_ with rfl | rfl | rfl | rfl | rfl <;> rfl) M1 (p := p) (q := q) (by omega) hq
    have ec : (Go.Proofs.Ytpbbechgpgnpbaa.PShade.flat (List.take p s_0 ++ List.drop q s_0)) = ((Go.Proofs.Ytpbbechgpgnpbaa.PShade.flat s_0)).take (p * 5) ++ ((Go.Proofs.Ytpbbechgpgnpbaa.PShade.flat s_0)).drop (q * 5) := by
      show List.flatMap Go.Proofs.Ytpbbechgpgnpbaa.PShade.Shade.cells _ = List.take _ (List.flatMap Go.Proofs.Ytpbbechgpgnpbaa.PShade.Shade.cells s_0) ++ List.drop _ (List.flatMap Go.Proofs.Ytpbbechgpgnpbaa.PShade.Shade.cells s_0)
      rw [flat_take Go.Proofs.Ytpbbechgpgnpbaa.PShade.Shade.cells 5 (fun _ => rfl) _ _, flat_drop Go.Proofs.Ytpbbechgpgnpbaa.PShade.Shade.cells 5 (fun _ => rfl) _ _, List.flatMap_append]
    have hn : (List.take p s_0 ++ List.drop q s_0).length = p + (s_0.length - q) := by rw [List.length_append, List.length_take, List.length_drop]; omega
    rw [ec, hn]
    clear M1 ec
    go_enter Try.func89, Try.ntmps89
    go_wp2_with fail
    go_region_held3 (fun w' => Hid (0 ≤ w'.heap.size)) (exact Lib.hid (Nat.zero_le _)) (refine Go.Proofs.Ytpbbechgpgnpbaa.GoD.step_append_run (w := w.drew) rfl (.tmp 22) (.tmp 25) 32 rfl rfl rfl ra ?_)
    go_wp2_with fail
    go_ret
    exact ⟨_, c0, rfl, ho, Aid.grown_tr (World.grownBy.trans (by exact ⟨rfl, rfl, rfl, Nat.le_refl _, fun _ _ _ => rfl⟩ : w.grownBy w.drew _) hgr) (Aid.grown_refl _ _), Go.Proofs.Ytpbbechgpgnpbaa.GoK.from_self⟩
end Go.Proofs.Ytpbbechgpgnpbaa.GxSlicesDeleteLoopExampleG01062ImplShadeLoopExampleG01062ImplShade

/- loop.example/g01062/impl.onCircle as a plain function, and the contract of the program's: where the plain one has an answer, the program has it. Conditions: slices read as lists. -/
namespace Go.Proofs.Ytpbbechgpgnpbaa.GiOnCircle
set_option linter.unusedVariables false
set_option linter.unusedSimpArgs false
open Go.RowKit
open Go.Proofs.Ytpbbechgpgnpbaa.Rowed Go.Proofs.Ytpbbechgpgnpbaa.Turn Go.Proofs.Ytpbbechgpgnpbaa.Aid Go.Proofs.Ytpbbechgpgnpbaa.GoP Go.Proofs.Ytpbbechgpgnpbaa.GoM

def P (n_0 : Int) : Option (Int) :=
  letK (IntKind.i64.wrap (n_0 + 360)) fun (t_2 : Int) =>
  letK (Int.tmod t_2 360) fun (t_3 : Int) =>
  some t_3

set_option maxRecDepth 100000 in
set_option maxHeartbeats 2000000 in
theorem C (n_0 : Int)   (w : World)   {r : Int} (H : Hid (P n_0 = some r)) :
    Calls Try.prog 92 #[.int .i64 n_0] w (Gives (.int .i64 r) w) := by
  have HB := Lib.hid (Below.refl w.heap.size w)
  unfold P at H
  go_enter Try.func92, Try.ntmps92
  replace H := let_hid H
  obtain ⟨t_2, ht_2, H⟩ := H
  replace H := let_hid H
  obtain ⟨t_3, ht_3, H⟩ := H
  obtain rfl := ret_hid H
  go_wp2_with fail
  go_ret
  exact ⟨rfl, HB.out⟩

set_option maxRecDepth 100000 in
set_option maxHeartbeats 2000000 in
theorem C0 (n_0 : Int)   (w : World)   {r : Int} (H : Hid (P n_0 = some r)) :
    Calls Try.prog 92 #[.int .i64 n_0] w (fun e w'' => e = .returned (.int .i64 r) ∧ w'' = w) := by
  have HB := Lib.hid (Below.refl w.heap.size w)
  unfold P at H
  go_enter Try.func92, Try.ntmps92
  replace H := let_hid H
  obtain ⟨t_2, ht_2, H⟩ := H
  replace H := let_hid H
  obtain ⟨t_3, ht_3, H⟩ := H
  obtain rfl := ret_hid H
  go_wp2_with fail
  go_ret
  exact ⟨rfl, rfl⟩
end Go.Proofs.Ytpbbechgpgnpbaa.GiOnCircle

/- loop.example/g01062/impl.upwards as a plain function, and the contract of the program's: where the plain one has an answer, the program has it. Conditions: slices read as lists. -/
namespace Go.Proofs.Ytpbbechgpgnpbaa.GiUpwards
set_option linter.unusedVariables false
set_option linter.unusedSimpArgs false
open Go.RowKit
open Go.Proofs.Ytpbbechgpgnpbaa.Rowed Go.Proofs.Ytpbbechgpgnpbaa.Turn Go.Proofs.Ytpbbechgpgnpbaa.Aid Go.Proofs.Ytpbbechgpgnpbaa.GoP Go.Proofs.Ytpbbechgpgnpbaa.GoM

def P (a : Int) (b : Int) : Option (Int) :=
  letK (IntKind.i64.wrap (b - a)) fun (t_3 : Int) =>
  Option.bind (Go.Proofs.Ytpbbechgpgnpbaa.GiOnCircle.P t_3) fun (t_4 : Int) =>
  some t_4

set_option maxRecDepth 100000 in
set_option maxHeartbeats 2000000 in
theorem C (a : Int) (b : Int)   (w : World)   {r : Int} (H : Hid (P a b = some r)) :
    Calls Try.prog 91 #[.int .i64 a, .int .i64 b] w (Gives (.int .i64 r) w) := by
  have HB := Lib.hid (Below.refl w.heap.size w)
  unfold P at H
  go_enter Try.func91, Try.ntmps91
  replace H := let_hid H
  obtain ⟨t_3, ht_3, H⟩ := H
  replace H := bind_hid H
  obtain ⟨t_4, qt_4, H⟩ := H
  go_wp2_with fail
  go_at_call 92
  refine (Go.Proofs.Ytpbbechgpgnpbaa.GiOnCircle.C (t_3)  _    qt_4).mono ?_
  rintro e_t_4 wt_4 ⟨rfl, bt_4⟩
  have HBwt_4 := Lib.hid (Below.step HB.out bt_4)
  clear bt_4
  obtain rfl := ret_hid H
  go_wp2_with fail
  go_ret
  exact ⟨rfl, HBwt_4.out⟩
end Go.Proofs.Ytpbbechgpgnpbaa.GiUpwards

/- loop.example/g01062/impl.hueDistance as a plain function, and the contract of the program's: where the plain one has an answer, the program has it. Conditions: slices read as lists. -/
namespace Go.Proofs.Ytpbbechgpgnpbaa.GiLoHueDistance
set_option linter.unusedVariables false
set_option linter.unusedSimpArgs false
open Go.RowKit
open Go.Proofs.Ytpbbechgpgnpbaa.Rowed Go.Proofs.Ytpbbechgpgnpbaa.Turn Go.Proofs.Ytpbbechgpgnpbaa.Aid Go.Proofs.Ytpbbechgpgnpbaa.GoP Go.Proofs.Ytpbbechgpgnpbaa.GoM

def P (a : Int) (b : Int) : Option (Int) :=
  Option.bind (Go.Proofs.Ytpbbechgpgnpbaa.GiUpwards.P a b) fun (t_3 : Int) =>
  Option.bind (Go.Proofs.Ytpbbechgpgnpbaa.GiUpwards.P b a) fun (t_6 : Int) =>
  letK (min t_3 t_6) fun (t_7 : Int) =>
  some t_7

set_option maxRecDepth 100000 in
set_option maxHeartbeats 2000000 in
theorem C (a : Int) (b : Int)   (w : World)   {r : Int} (H : Hid (P a b = some r)) :
    Calls Try.prog 66 #[.int .i64 a, .int .i64 b] w (Gives (.int .i64 r) w) := by
  have HB := Lib.hid (Below.refl w.heap.size w)
  unfold P at H
  go_enter Try.func66, Try.ntmps66
  replace H := bind_hid H
  obtain ⟨t_3, qt_3, H⟩ := H
  go_wp2_with fail
  go_at_call 91
  refine (Go.Proofs.Ytpbbechgpgnpbaa.GiUpwards.C (a) (b)  _    qt_3).mono ?_
  rintro e_t_3 wt_3 ⟨rfl, bt_3⟩
  have HBwt_3 := Lib.hid (Below.step HB.out bt_3)
  clear bt_3
  replace H := bind_hid H
  obtain ⟨t_6, qt_6, H⟩ := H
  go_wp2_with fail
  go_at_call 91
  refine (Go.Proofs.Ytpbbechgpgnpbaa.GiUpwards.C (b) (a)  _    qt_6).mono ?_
  rintro e_t_6 wt_6 ⟨rfl, bt_6⟩
  have HBwt_6 := Lib.hid (Below.step HBwt_3.out bt_6)
  clear bt_6
  replace H := let_hid H
  obtain ⟨t_7, ht_7, H⟩ := H
  obtain rfl := ret_hid H
  go_wp2_with fail
  go_ret
  exact ⟨rfl, HBwt_6.out⟩
end Go.Proofs.Ytpbbechgpgnpbaa.GiLoHueDistance

/- loop.example/g01062/impl.takesIn as a plain function, and the contract of the program's: where the plain one has an answer, the program has it. Conditions: slices read as lists. -/
namespace Go.Proofs.Ytpbbechgpgnpbaa.GiTakesIn
set_option linter.unusedVariables false
set_option linter.unusedSimpArgs false
open Go.RowKit
open Go.Proofs.Ytpbbechgpgnpbaa.Rowed Go.Proofs.Ytpbbechgpgnpbaa.Turn Go.Proofs.Ytpbbechgpgnpbaa.Aid Go.Proofs.Ytpbbechgpgnpbaa.GoP Go.Proofs.Ytpbbechgpgnpbaa.GoM

def P (x : Go.Proofs.Ytpbbechgpgnpbaa.PShade.Shade) (hue : Int) (light : Int) : Option (Bool) :=
  unShade x fun (x_name : ByteArray) (x_hue : Int) (x_width : Int) (x_dark : Int) (x_light : Int) =>
  Option.bind (Go.Proofs.Ytpbbechgpgnpbaa.GiLoHueDistance.P x_hue hue) fun (t_5 : Int) =>
  letK (decide (t_5 ≤ x_width)) fun (t_8 : Bool) =>
  joinK (fun (t_16 : Bool) =>
  some t_16) fun jt_16 => iteK t_8 (Option.bind (Go.Proofs.Ytpbbechgpgnpbaa.GiWithin.P light x_dark x_light) fun (t_15 : Bool) =>
  appK jt_16 t_15) (appK jt_16 false)

set_option maxRecDepth 100000 in
set_option maxHeartbeats 2000000 in
theorem C (x : Go.Proofs.Ytpbbechgpgnpbaa.PShade.Shade) (hue : Int) (light : Int)   (w : World)   {r : Bool} (H : Hid (P x hue light = some r)) :
    Calls Try.prog 72 #[x.val, .int .i64 hue, .int .i64 light] w (Gives (.bool r) w) := by
  have HB := Lib.hid (Below.refl w.heap.size w)
  unfold P at H
  obtain ⟨x_name, x_hue, x_width, x_dark, x_light⟩ := x
  replace H := unShade_hid H
  unfold Go.Proofs.Ytpbbechgpgnpbaa.PShade.Shade.val
  go_enter Try.func72, Try.ntmps72
  obtain ⟨w_x_0, hw_x_0⟩ : ∃ x, w.alloc (.cells #[.string x_name, .int .i64 x_hue, .int .i64 x_width, .int .i64 x_dark, .int .i64 x_light] 26) = x := ⟨_, rfl⟩
  have bw_x_0 : Below w.heap.size w w_x_0 := by rw [← hw_x_0]; exact (Below.refl _ _).alloc (Nat.le_refl _) _
  have HBw_x_0 := Lib.hid (Below.step HB.out bw_x_0)
  clear bw_x_0
  have kx_0_0 : w_x_0.cell? ⟨w.heap.size, 0, none⟩ = some (.string x_name) := by rw [← hw_x_0]; exact box_new _ _ _ 0 _ rfl
  have kx_0_1 : w_x_0.cell? ⟨w.heap.size, 1, none⟩ = some (.int .i64 x_hue) := by rw [← hw_x_0]; exact box_new _ _ _ 1 _ rfl
  have kx_0_2 : w_x_0.cell? ⟨w.heap.size, 2, none⟩ = some (.int .i64 x_width) := by rw [← hw_x_0]; exact box_new _ _ _ 2 _ rfl
  have kx_0_3 : w_x_0.cell? ⟨w.heap.size, 3, none⟩ = some (.int .i64 x_dark) := by rw [← hw_x_0]; exact box_new _ _ _ 3 _ rfl
  have kx_0_4 : w_x_0.cell? ⟨w.heap.size, 4, none⟩ = some (.int .i64 x_light) := by rw [← hw_x_0]; exact box_new _ _ _ 4 _ rfl
  go_wp2_with fail
  have Hkx_0_0 := Lib.hid kx_0_0
  replace kx_0_0 := cell_regrown kx_0_0
  have Hkx_0_1 := Lib.hid kx_0_1
  replace kx_0_1 := cell_regrown kx_0_1
  have Hkx_0_2 := Lib.hid kx_0_2
  replace kx_0_2 := cell_regrown kx_0_2
  have Hkx_0_3 := Lib.hid kx_0_3
  replace kx_0_3 := cell_regrown kx_0_3
  have Hkx_0_4 := Lib.hid kx_0_4
  replace kx_0_4 := cell_regrown kx_0_4
  replace H := bind_hid H
  obtain ⟨t_5, qt_5, H⟩ := H
  have nt_5 : ∀ d os, Calls Try.prog 66 #[.int .i64 x_hue, .int .i64 hue] (Go.Sort.grow (redrawn w_x_0 d) os) fun e w'' => e = .returned (.int .i64 t_5) ∧ ∃ p : Regrown, w'' = Go.Sort.grow (redrawn w_x_0 p.d) p.os := fun d os => Calls.regrown_of (Go.Proofs.Ytpbbechgpgnpbaa.GiLoHueDistance.C (x_hue) (hue)  _    qt_5)
  replace H := let_hid H
  obtain ⟨t_8, ht_8, H⟩ := H
  replace H := join_hid H
  cases t_8 with
  | false =>
    replace H := ite_f H
    replace H := app_hid H
    refine wp_region_quiet_below (by kernel_rfl) (by kernel_rfl) ?_
    repeat (go_big_quiet_step (first | (go_at_call 66; exact nt_5 _ _)))
    refine wpQuiet_nil ?_
    intro Y1 hY1
    replace hY1 := below_class hY1
    clear nt_5
    replace kx_0_0 := Hkx_0_0.out
    clear Hkx_0_0
    replace kx_0_1 := Hkx_0_1.out
    clear Hkx_0_1
    replace kx_0_2 := Hkx_0_2.out
    clear Hkx_0_2
    replace kx_0_3 := Hkx_0_3.out
    clear Hkx_0_3
    replace kx_0_4 := Hkx_0_4.out
    clear Hkx_0_4
    have HBY1 := Lib.hid (Below.step HBw_x_0.out hY1)
    replace kx_0_0 := cell_below hY1 kx_0_0
    replace kx_0_1 := cell_below hY1 kx_0_1
    replace kx_0_2 := cell_below hY1 kx_0_2
    replace kx_0_3 := cell_below hY1 kx_0_3
    replace kx_0_4 := cell_below hY1 kx_0_4
    clear hY1
    obtain rfl := ret_hid H
    go_wp2_with fail
    go_ret
    exact ⟨rfl, HBY1.out⟩
  | true =>
    replace H := ite_t H
    replace H := bind_hid H
    obtain ⟨t_15, qt_15, H⟩ := H
    have nt_15 : ∀ d os, Calls Try.prog 58 #[.int .i64 light, .int .i64 x_dark, .int .i64 x_light] (Go.Sort.grow (redrawn w_x_0 d) os) fun e w'' => e = .returned (.bool t_15) ∧ ∃ p : Regrown, w'' = Go.Sort.grow (redrawn w_x_0 p.d) p.os := fun d os => Calls.regrown_of (Go.Proofs.Ytpbbechgpgnpbaa.GiWithin.C (light) (x_dark) (x_light)  _    qt_15)
    replace H := app_hid H
    refine wp_region_quiet_below (by kernel_rfl) (by kernel_rfl) ?_
    repeat (go_big_quiet_step (first | (go_at_call 66; exact nt_5 _ _) | (go_at_call 58; exact nt_15 _ _)))
    refine wpQuiet_nil ?_
    intro Y1 hY1
    replace hY1 := below_class hY1
    clear nt_5 nt_15
    replace kx_0_0 := Hkx_0_0.out
    clear Hkx_0_0
    replace kx_0_1 := Hkx_0_1.out
    clear Hkx_0_1
    replace kx_0_2 := Hkx_0_2.out
    clear Hkx_0_2
    replace kx_0_3 := Hkx_0_3.out
    clear Hkx_0_3
    replace kx_0_4 := Hkx_0_4.out
    clear Hkx_0_4
    have HBY1 := Lib.hid (Below.step HBw_x_0.out hY1)
    replace kx_0_0 := cell_below hY1 kx_0_0
    replace kx_0_1 := cell_below hY1 kx_0_1
    replace kx_0_2 := cell_below hY1 kx_0_2
    replace kx_0_3 := cell_below hY1 kx_0_3
    replace kx_0_4 := cell_below hY1 kx_0_4
    clear hY1
    obtain rfl := ret_hid H
    go_wp2_with fail
    go_ret
    exact ⟨rfl, HBY1.out⟩
end Go.Proofs.Ytpbbechgpgnpbaa.GiTakesIn

/- loop.example/g01062/impl.isFree$1 as a plain function, and the contract of the program's: where the plain one has an answer, the program has it. Conditions: slices read as lists. -/
namespace Go.Proofs.Ytpbbechgpgnpbaa.GiIsFree1
set_option linter.unusedVariables false
set_option linter.unusedSimpArgs false
open Go.RowKit
open Go.Proofs.Ytpbbechgpgnpbaa.Rowed Go.Proofs.Ytpbbechgpgnpbaa.Turn Go.Proofs.Ytpbbechgpgnpbaa.Aid Go.Proofs.Ytpbbechgpgnpbaa.GoP Go.Proofs.Ytpbbechgpgnpbaa.GoM

def P (x : Go.Proofs.Ytpbbechgpgnpbaa.PShade.Shade) (hq0 : Int) (hq1 : Int) : Option (Bool) :=
  unShade x fun (x_name : ByteArray) (x_hue : Int) (x_width : Int) (x_dark : Int) (x_light : Int) =>
  Option.bind (Go.Proofs.Ytpbbechgpgnpbaa.GiTakesIn.P (Go.Proofs.Ytpbbechgpgnpbaa.PShade.Shade.mk x_name x_hue x_width x_dark x_light) hq0 hq1) fun (t_5 : Bool) =>
  some t_5

set_option maxRecDepth 100000 in
set_option maxHeartbeats 2000000 in
theorem C (x : Go.Proofs.Ytpbbechgpgnpbaa.PShade.Shade) (hq0 : Int) (hq1 : Int)  (gq0 : Nat) (gq1 : Nat) (w : World)  (Fq0h : Hid (w.cell? ⟨gq0, 0, none⟩ = some (.int .i64 hq0))) (Fq1h : Hid (w.cell? ⟨gq1, 0, none⟩ = some (.int .i64 hq1))) {r : Bool} (H : Hid (P x hq0 hq1 = some r)) :
    Calls Try.prog 101 #[x.val, .pointer (some ⟨gq0, 0, none⟩), .pointer (some ⟨gq1, 0, none⟩)] w (Gives (.bool r) w) := by
  have HB := Lib.hid (Below.refl w.heap.size w)
  unfold P at H
  obtain ⟨x_name, x_hue, x_width, x_dark, x_light⟩ := x
  replace H := unShade_hid H
  unfold Go.Proofs.Ytpbbechgpgnpbaa.PShade.Shade.val
  have Fq0 := Fq0h.out
  have Fq1 := Fq1h.out
  go_enter Try.func101, Try.ntmps101
  obtain ⟨w_x_0, hw_x_0⟩ : ∃ x, w.alloc (.cells #[.string x_name, .int .i64 x_hue, .int .i64 x_width, .int .i64 x_dark, .int .i64 x_light] 26) = x := ⟨_, rfl⟩
  have bw_x_0 : Below w.heap.size w w_x_0 := by rw [← hw_x_0]; exact (Below.refl _ _).alloc (Nat.le_refl _) _
  have HBw_x_0 := Lib.hid (Below.step HB.out bw_x_0)
  have Fq0__7 := cell_below bw_x_0 Fq0
  have Fq1__8 := cell_below bw_x_0 Fq1
  clear bw_x_0
  have kx_0_0 : w_x_0.cell? ⟨w.heap.size, 0, none⟩ = some (.string x_name) := by rw [← hw_x_0]; exact box_new _ _ _ 0 _ rfl
  have kx_0_1 : w_x_0.cell? ⟨w.heap.size, 1, none⟩ = some (.int .i64 x_hue) := by rw [← hw_x_0]; exact box_new _ _ _ 1 _ rfl
  have kx_0_2 : w_x_0.cell? ⟨w.heap.size, 2, none⟩ = some (.int .i64 x_width) := by rw [← hw_x_0]; exact box_new _ _ _ 2 _ rfl
  have kx_0_3 : w_x_0.cell? ⟨w.heap.size, 3, none⟩ = some (.int .i64 x_dark) := by rw [← hw_x_0]; exact box_new _ _ _ 3 _ rfl
  have kx_0_4 : w_x_0.cell? ⟨w.heap.size, 4, none⟩ = some (.int .i64 x_light) := by rw [← hw_x_0]; exact box_new _ _ _ 4 _ rfl
  replace H := bind_hid H
  obtain ⟨t_5, qt_5, H⟩ := H
  go_wp2_with fail
  clear Fq0 Fq1
  go_at_call 72
  refine (Go.Proofs.Ytpbbechgpgnpbaa.GiTakesIn.C ((Go.Proofs.Ytpbbechgpgnpbaa.PShade.Shade.mk x_name x_hue x_width x_dark x_light)) (hq0) (hq1)  _    qt_5).mono ?_
  rintro e_t_5 wt_5 ⟨rfl, bt_5⟩
  have HBwt_5 := Lib.hid (Below.step HBw_x_0.out bt_5)
  replace Fq0__7 := cell_below bt_5 Fq0__7
  replace Fq1__8 := cell_below bt_5 Fq1__8
  replace kx_0_0 := cell_below bt_5 kx_0_0
  replace kx_0_1 := cell_below bt_5 kx_0_1
  replace kx_0_2 := cell_below bt_5 kx_0_2
  replace kx_0_3 := cell_below bt_5 kx_0_3
  replace kx_0_4 := cell_below bt_5 kx_0_4
  clear bt_5
  obtain rfl := ret_hid H
  go_wp2_with fail
  go_ret
  exact ⟨rfl, HBwt_5.out⟩
end Go.Proofs.Ytpbbechgpgnpbaa.GiIsFree1

/- slices.IndexFunc[[]loop.example/g01062/impl.Shade,loop.example/g01062/impl.Shade] as a plain function, and the contract of the program's: where the plain one has an answer, the program has it. Conditions: slices read as lists. -/
namespace Go.Proofs.Ytpbbechgpgnpbaa.GxSlicesIndexFuncLoopExampleG01062ImplShadeLoopExampleG01062ImplShadeiIsFree1
set_option linter.unusedVariables false
set_option linter.unusedSimpArgs false
open Go.RowKit
open Go.Proofs.Ytpbbechgpgnpbaa.Rowed Go.Proofs.Ytpbbechgpgnpbaa.Turn Go.Proofs.Ytpbbechgpgnpbaa.Aid Go.Proofs.Ytpbbechgpgnpbaa.GoP Go.Proofs.Ytpbbechgpgnpbaa.GoM

def l0 (s_0 : (List Go.Proofs.Ytpbbechgpgnpbaa.PShade.Shade)) (hf1_0 : Int) (hf1_1 : Int) (k0 : Nat) (s : Unit) (nx0 bk0 : Unit → Option (Int)) : Option (Int) :=
  
  Option.bind (idx s_0 (k0 : Int)) fun (yt_10 : Go.Proofs.Ytpbbechgpgnpbaa.PShade.Shade) =>
  unShade yt_10 fun (t_10_name : ByteArray) (t_10_hue : Int) (t_10_width : Int) (t_10_dark : Int) (t_10_light : Int) =>
  Option.bind (Go.Proofs.Ytpbbechgpgnpbaa.GiIsFree1.P (Go.Proofs.Ytpbbechgpgnpbaa.PShade.Shade.mk t_10_name t_10_hue t_10_width t_10_dark t_10_light) hf1_0 hf1_1) fun (t_12 : Bool) =>
  iteK t_12
  (some (k0 : Int))
  (appK nx0 ())

def e0  (s : Unit) : Option (Int) :=
  
  some (-1)

def P (s_0 : (List Go.Proofs.Ytpbbechgpgnpbaa.PShade.Shade)) (hf1_0 : Int) (hf1_1 : Int) : Option (Int) :=
  cntK (l0 s_0 hf1_0 hf1_1) (s_0.length) 0 () (e0 )

set_option maxRecDepth 100000 in
set_option maxHeartbeats 2000000 in
theorem C (s_0 : (List Go.Proofs.Ytpbbechgpgnpbaa.PShade.Shade)) (hf1_0 : Int) (hf1_1 : Int) (A0 : Option Addr) (c0 : Nat) (gf1_0 : Nat) (gf1_1 : Nat) (w : World) (M0 : Hid (Cells w 5 A0 s_0.length (Go.Proofs.Ytpbbechgpgnpbaa.PShade.flat s_0))) (N0 : Hid (s_0.length ≤ 9223372036854775807)) (Ff1_0h : Hid (w.cell? ⟨gf1_0, 0, none⟩ = some (.int .i64 hf1_0))) (Ff1_1h : Hid (w.cell? ⟨gf1_1, 0, none⟩ = some (.int .i64 hf1_1))) {r : Int} (H : Hid (P s_0 hf1_0 hf1_1 = some r)) :
    Calls Try.prog 87 #[.slice A0 s_0.length c0, .func (.func 101) #[] #[.pointer (some ⟨gf1_0, 0, none⟩), .pointer (some ⟨gf1_1, 0, none⟩)]] w (Gives (.int .i64 r) w) := by
  have HB := Lib.hid (Below.refl w.heap.size w)
  unfold P at H
  have N0o := N0.out
  have Ff1_0 := Ff1_0h.out
  have Ff1_1 := Ff1_1h.out
  go_enter Try.func87, Try.ntmps87
  go_wp2_with fail
  go_loopg [8] (s_0.length) (fun m_ v8_ wr => ∃ (k0 : Nat) , k0 + m_ = s_0.length ∧ v8_ = .int .i64 (k0 : Int) ∧ Hid (cntK (l0 s_0 hf1_0 hf1_1) m_ k0 () (e0 ) = some r) ∧ Hid (Below w.heap.size w wr) ∧ wr.cell? ⟨gf1_0, 0, none⟩ = some (.int .i64 hf1_0) ∧ wr.cell? ⟨gf1_1, 0, none⟩ = some (.int .i64 hf1_1))
  case atStart => exact ⟨0, by omega, rfl, H, HB, Ff1_0, Ff1_1⟩
  case round =>
    obtain ⟨k0, hkm0, rfl, H, HBwr0, Ff1_0, Ff1_1⟩ := hrel
    rename World => wr0
    cases gk with
    | zero =>
      obtain rfl : k0 = s_0.length := by omega
      have hc0 : decide (((s_0.length : Nat) : Int) < ((s_0.length : Nat) : Int)) = false := by simp
      replace H := cnt_zero H
      unfold e0 at H
      obtain rfl := ret_hid H
      go_wp2_with fail
      go_ret
      exact ⟨rfl, HBwr0.out⟩
    | succ m0 =>
      have hlt0 : k0 < s_0.length := by omega
      have hc0 : decide ((k0 : Int) < ((s_0.length : Nat) : Int)) = true := by simp; omega
      replace H := cnt_succ H
      unfold l0 at H
      replace H := idx_hid H
      obtain ⟨nt_10, yt_10, et_10, lt_10, gt_10, H⟩ := H
      obtain rfl : k0 = nt_10 := by omega
      clear et_10
      obtain ⟨t_10_name, t_10_hue, t_10_width, t_10_dark, t_10_light⟩ := yt_10
      replace H := unShade_hid H
      obtain ⟨ab_t_10, ao_t_10, zt_10, At_10, z_t_10, ct_10_0, ct_10_1, ct_10_2, ct_10_3, ct_10_4⟩ := Go.Proofs.Ytpbbechgpgnpbaa.OShade.at_ M0.out lt_10
      obtain rfl := Option.some.inj (gt_10.out.symm.trans z_t_10)
      subst At_10
      have ltt_10 := cell_lt ct_10_0
      replace ct_10_0 := cell_below HBwr0.out ct_10_0
      replace ct_10_1 := cell_below HBwr0.out ct_10_1
      replace ct_10_2 := cell_below HBwr0.out ct_10_2
      replace ct_10_3 := cell_below HBwr0.out ct_10_3
      replace ct_10_4 := cell_below HBwr0.out ct_10_4
      clear z_t_10
      have b0t_10 : (0 : Int) ≤ (k0 : Int) := by omega
      have b1t_10 : (k0 : Int) < ((s_0.length : Nat) : Int) := by omega
      have b2t_10 : ((k0 : Int)).toNat = k0 := by omega
      replace H := bind_hid H
      obtain ⟨t_12, qt_12, H⟩ := H
      go_wp2_with fail
      go_at_call 101
      refine (Go.Proofs.Ytpbbechgpgnpbaa.GiIsFree1.C ((Go.Proofs.Ytpbbechgpgnpbaa.PShade.Shade.mk t_10_name t_10_hue t_10_width t_10_dark t_10_light)) (hf1_0) (hf1_1) (gf1_0) (gf1_1) _   (Lib.hid Ff1_0) (Lib.hid Ff1_1) qt_12).mono ?_
      rintro e_t_12 wt_12 ⟨rfl, bt_12⟩
      have HBwt_12 := Lib.hid (Below.step HBwr0.out bt_12)
      replace Ff1_0 := cell_below bt_12 Ff1_0
      replace Ff1_1 := cell_below bt_12 Ff1_1
      replace ct_10_0 := cell_below bt_12 ct_10_0
      replace ct_10_1 := cell_below bt_12 ct_10_1
      replace ct_10_2 := cell_below bt_12 ct_10_2
      replace ct_10_3 := cell_below bt_12 ct_10_3
      replace ct_10_4 := cell_below bt_12 ct_10_4
      clear bt_12
      cases t_12 with
      | false =>
        replace H := ite_f H
        replace H := app_hid H
        go_wp2_with fail
        go_roundg m0
        case measure => omega
        case rel => exact ⟨k0 + 1, by omega, by go_num, H, HBwt_12, Ff1_0, Ff1_1⟩
      | true =>
        replace H := ite_t H
        obtain rfl := ret_hid H
        go_wp2_with fail
        go_ret
        exact ⟨rfl, HBwt_12.out⟩
end Go.Proofs.Ytpbbechgpgnpbaa.GxSlicesIndexFuncLoopExampleG01062ImplShadeLoopExampleG01062ImplShadeiIsFree1

/- slices.ContainsFunc[[]loop.example/g01062/impl.Shade,loop.example/g01062/impl.Shade] as a plain function, and the contract of the program's: where the plain one has an answer, the program has it. Conditions: slices read as lists. -/
namespace Go.Proofs.Ytpbbechgpgnpbaa.GxSlicesContainsFuncLoopExampleG01062ImplShadeLoopExampleG01062ImplShadeiIsFree1
set_option linter.unusedVariables false
set_option linter.unusedSimpArgs false
open Go.RowKit
open Go.Proofs.Ytpbbechgpgnpbaa.Rowed Go.Proofs.Ytpbbechgpgnpbaa.Turn Go.Proofs.Ytpbbechgpgnpbaa.Aid Go.Proofs.Ytpbbechgpgnpbaa.GoP Go.Proofs.Ytpbbechgpgnpbaa.GoM

def P (s_0 : (List Go.Proofs.Ytpbbechgpgnpbaa.PShade.Shade)) (hf1_0 : Int) (hf1_1 : Int) : Option (Bool) :=
  Option.bind (Go.Proofs.Ytpbbechgpgnpbaa.GxSlicesIndexFuncLoopExampleG01062ImplShadeLoopExampleG01062ImplShadeiIsFree1.P s_0 hf1_0 hf1_1) fun (t_3 : Int) =>
  letK (decide (0 ≤ t_3)) fun (t_4 : Bool) =>
  some t_4

set_option maxRecDepth 100000 in
set_option maxHeartbeats 2000000 in
theorem C (s_0 : (List Go.Proofs.Ytpbbechgpgnpbaa.PShade.Shade)) (hf1_0 : Int) (hf1_1 : Int) (A0 : Option Addr) (c0 : Nat) (gf1_0 : Nat) (gf1_1 : Nat) (w : World) (M0 : Hid (Cells w 5 A0 s_0.length (Go.Proofs.Ytpbbechgpgnpbaa.PShade.flat s_0))) (N0 : Hid (s_0.length ≤ 9223372036854775807)) (Ff1_0h : Hid (w.cell? ⟨gf1_0, 0, none⟩ = some (.int .i64 hf1_0))) (Ff1_1h : Hid (w.cell? ⟨gf1_1, 0, none⟩ = some (.int .i64 hf1_1))) {r : Bool} (H : Hid (P s_0 hf1_0 hf1_1 = some r)) :
    Calls Try.prog 100 #[.slice A0 s_0.length c0, .func (.func 101) #[] #[.pointer (some ⟨gf1_0, 0, none⟩), .pointer (some ⟨gf1_1, 0, none⟩)]] w (Gives (.bool r) w) := by
  have HB := Lib.hid (Below.refl w.heap.size w)
  unfold P at H
  have N0o := N0.out
  have Ff1_0 := Ff1_0h.out
  have Ff1_1 := Ff1_1h.out
  go_enter Try.func100, Try.ntmps100
  replace H := bind_hid H
  obtain ⟨t_3, qt_3, H⟩ := H
  go_wp2_with fail
  go_at_call 87
  refine (Go.Proofs.Ytpbbechgpgnpbaa.GxSlicesIndexFuncLoopExampleG01062ImplShadeLoopExampleG01062ImplShadeiIsFree1.C (s_0) (hf1_0) (hf1_1) A0 c0 (gf1_0) (gf1_1) _   (Lib.hid (Cells.below M0.out HB.out)) N0 (Lib.hid Ff1_0) (Lib.hid Ff1_1) qt_3).mono ?_
  rintro e_t_3 wt_3 ⟨rfl, bt_3⟩
  have HBwt_3 := Lib.hid (Below.step HB.out bt_3)
  replace Ff1_0 := cell_below bt_3 Ff1_0
  replace Ff1_1 := cell_below bt_3 Ff1_1
  clear bt_3
  replace H := let_hid H
  obtain ⟨t_4, ht_4, H⟩ := H
  obtain rfl := ret_hid H
  go_wp2_with fail
  go_ret
  exact ⟨rfl, HBwt_3.out⟩
end Go.Proofs.Ytpbbechgpgnpbaa.GxSlicesContainsFuncLoopExampleG01062ImplShadeLoopExampleG01062ImplShadeiIsFree1

/- loop.example/g01062/impl.isFree as a plain function, and the contract of the program's: where the plain one has an answer, the program has it. Conditions: slices read as lists. -/
namespace Go.Proofs.Ytpbbechgpgnpbaa.GiIsFree
set_option linter.unusedVariables false
set_option linter.unusedSimpArgs false
open Go.RowKit
open Go.Proofs.Ytpbbechgpgnpbaa.Rowed Go.Proofs.Ytpbbechgpgnpbaa.Turn Go.Proofs.Ytpbbechgpgnpbaa.Aid Go.Proofs.Ytpbbechgpgnpbaa.GoP Go.Proofs.Ytpbbechgpgnpbaa.GoM

def P (list : (List Go.Proofs.Ytpbbechgpgnpbaa.PShade.Shade)) (hue : Int) (light : Int) : Option (Bool) :=
  Option.bind (Go.Proofs.Ytpbbechgpgnpbaa.GxSlicesContainsFuncLoopExampleG01062ImplShadeLoopExampleG01062ImplShadeiIsFree1.P list hue light) fun (t_5 : Bool) =>
  letK (!t_5) fun (t_6 : Bool) =>
  some t_6

set_option maxRecDepth 100000 in
set_option maxHeartbeats 2000000 in
theorem C (list : (List Go.Proofs.Ytpbbechgpgnpbaa.PShade.Shade)) (hue : Int) (light : Int) (A0 : Option Addr) (c0 : Nat)  (w : World) (M0 : Hid (Cells w 5 A0 list.length (Go.Proofs.Ytpbbechgpgnpbaa.PShade.flat list))) (N0 : Hid (list.length ≤ 9223372036854775807))  {r : Bool} (H : Hid (P list hue light = some r)) :
    Calls Try.prog 86 #[.slice A0 list.length c0, .int .i64 hue, .int .i64 light] w (Gives (.bool r) w) := by
  have HB := Lib.hid (Below.refl w.heap.size w)
  unfold P at H
  have N0o := N0.out
  go_enter Try.func86, Try.ntmps86
  obtain ⟨w_hue_0, hw_hue_0⟩ : ∃ x, w.alloc (.cells #[.int .i64 hue] 3) = x := ⟨_, rfl⟩
  have bw_hue_0 : Below w.heap.size w w_hue_0 := by rw [← hw_hue_0]; exact (Below.refl _ _).alloc (Nat.le_refl _) _
  have HBw_hue_0 := Lib.hid (Below.step HB.out bw_hue_0)
  clear bw_hue_0
  have khue_0_0 : w_hue_0.cell? ⟨w.heap.size, 0, none⟩ = some (.int .i64 hue) := by rw [← hw_hue_0]; exact box_new _ _ _ 0 _ rfl
  obtain ⟨w_light_1, hw_light_1⟩ : ∃ x, w_hue_0.alloc (.cells #[.int .i64 light] 3) = x := ⟨_, rfl⟩
  have bw_light_1 : Below w_hue_0.heap.size w_hue_0 w_light_1 := by rw [← hw_light_1]; exact (Below.refl _ _).alloc (Nat.le_refl _) _
  have HBw_light_1 := Lib.hid (Below.step HBw_hue_0.out bw_light_1)
  have khue_0_0__9 := cell_below bw_light_1 khue_0_0
  clear bw_light_1
  have klight_1_0 : w_light_1.cell? ⟨w_hue_0.heap.size, 0, none⟩ = some (.int .i64 light) := by rw [← hw_light_1]; exact box_new _ _ _ 0 _ rfl
  replace H := bind_hid H
  obtain ⟨t_5, qt_5, H⟩ := H
  go_wp2_with fail
  clear khue_0_0
  go_at_call 100
  refine (Go.Proofs.Ytpbbechgpgnpbaa.GxSlicesContainsFuncLoopExampleG01062ImplShadeLoopExampleG01062ImplShadeiIsFree1.C (list) (hue) (light) A0 c0 (w.heap.size) (w_hue_0.heap.size) _   (Lib.hid (Cells.below M0.out HBw_light_1.out)) N0 (Lib.hid khue_0_0__9) (Lib.hid klight_1_0) qt_5).mono ?_
  rintro e_t_5 wt_5 ⟨rfl, bt_5⟩
  have HBwt_5 := Lib.hid (Below.step HBw_light_1.out bt_5)
  replace khue_0_0__9 := cell_below bt_5 khue_0_0__9
  replace klight_1_0 := cell_below bt_5 klight_1_0
  clear bt_5
  cases t_5 with
  | false =>
    replace H := let_hid H
    obtain ⟨t_6, ht_6, H⟩ := H
    obtain rfl : t_6 = true := ht_6.symm
    obtain rfl := ret_hid H
    go_wp2_with fail
    go_ret
    exact ⟨rfl, HBwt_5.out⟩
  | true =>
    replace H := let_hid H
    obtain ⟨t_6, ht_6, H⟩ := H
    obtain rfl : t_6 = false := ht_6.symm
    obtain rfl := ret_hid H
    go_wp2_with fail
    go_ret
    exact ⟨rfl, HBwt_5.out⟩
end Go.Proofs.Ytpbbechgpgnpbaa.GiIsFree

/- loop.example/g01062/impl.CertainHues$2 as a plain function, and the contract of the program's: where the plain one has an answer, the program has it. Conditions: slices read as lists. -/
namespace Go.Proofs.Ytpbbechgpgnpbaa.GiCertainHues2
set_option linter.unusedVariables false
set_option linter.unusedSimpArgs false
open Go.RowKit
open Go.Proofs.Ytpbbechgpgnpbaa.Rowed Go.Proofs.Ytpbbechgpgnpbaa.Turn Go.Proofs.Ytpbbechgpgnpbaa.Aid Go.Proofs.Ytpbbechgpgnpbaa.GoP Go.Proofs.Ytpbbechgpgnpbaa.GoM

def P (hue : Int) (hq0 : (List Go.Proofs.Ytpbbechgpgnpbaa.PShade.Shade)) (hq1 : Int) (hq2 : Int) (hq3 : (List Go.Proofs.Ytpbbechgpgnpbaa.PShade.Shade)) : Option (Bool) :=
  Option.bind (idx hq0 hq1) fun (yt_3 : Go.Proofs.Ytpbbechgpgnpbaa.PShade.Shade) =>
  unShade yt_3 fun (t_3_name : ByteArray) (t_3_hue : Int) (t_3_width : Int) (t_3_dark : Int) (t_3_light : Int) =>
  Option.bind (Go.Proofs.Ytpbbechgpgnpbaa.GiTakesIn.P (Go.Proofs.Ytpbbechgpgnpbaa.PShade.Shade.mk t_3_name t_3_hue t_3_width t_3_dark t_3_light) hue hq2) fun (t_7 : Bool) =>
  joinK (fun (t_13 : Bool) =>
  some t_13) fun jt_13 => iteK t_7 (Option.bind (Go.Proofs.Ytpbbechgpgnpbaa.GiIsFree.P hq3 hue hq2) fun (t_12 : Bool) =>
  appK jt_13 t_12) (appK jt_13 false)

set_option maxRecDepth 100000 in
set_option maxHeartbeats 2000000 in
theorem C (hue : Int) (hq0 : (List Go.Proofs.Ytpbbechgpgnpbaa.PShade.Shade)) (hq1 : Int) (hq2 : Int) (hq3 : (List Go.Proofs.Ytpbbechgpgnpbaa.PShade.Shade)) (Ahq0 : Option Addr) (chq0 : Nat) (Ahq3 : Option Addr) (chq3 : Nat) (gq0 : Nat) (gq1 : Nat) (gq2 : Nat) (gq3 : Nat) (w : World) (Mhq0 : Hid (Cells w 5 Ahq0 hq0.length (Go.Proofs.Ytpbbechgpgnpbaa.PShade.flat hq0))) (Nhq0 : Hid (hq0.length ≤ 9223372036854775807)) (Mhq3 : Hid (Cells w 5 Ahq3 hq3.length (Go.Proofs.Ytpbbechgpgnpbaa.PShade.flat hq3))) (Nhq3 : Hid (hq3.length ≤ 9223372036854775807)) (Fq0h : Hid (w.cell? ⟨gq0, 0, none⟩ = some (.slice Ahq0 hq0.length chq0))) (Fq1h : Hid (w.cell? ⟨gq1, 0, none⟩ = some (.int .i64 hq1))) (Fq2h : Hid (w.cell? ⟨gq2, 0, none⟩ = some (.int .i64 hq2))) (Fq3h : Hid (w.cell? ⟨gq3, 0, none⟩ = some (.slice Ahq3 hq3.length chq3))) {r : Bool} (H : Hid (P hue hq0 hq1 hq2 hq3 = some r)) :
    Calls Try.prog 90 #[.int .i64 hue, .pointer (some ⟨gq0, 0, none⟩), .pointer (some ⟨gq1, 0, none⟩), .pointer (some ⟨gq2, 0, none⟩), .pointer (some ⟨gq3, 0, none⟩)] w (Gives (.bool r) w) := by
  have HB := Lib.hid (Below.refl w.heap.size w)
  unfold P at H
  have Nhq0o := Nhq0.out
  have Nhq3o := Nhq3.out
  have Fq0 := Fq0h.out
  have Fq1 := Fq1h.out
  have Fq2 := Fq2h.out
  have Fq3 := Fq3h.out
  go_enter Try.func90, Try.ntmps90
  go_wp2_with fail
  have HFq0 := Lib.hid Fq0
  replace Fq0 := cell_regrown Fq0
  have HFq1 := Lib.hid Fq1
  replace Fq1 := cell_regrown Fq1
  have HFq2 := Lib.hid Fq2
  replace Fq2 := cell_regrown Fq2
  have HFq3 := Lib.hid Fq3
  replace Fq3 := cell_regrown Fq3
  replace H := idx_hid H
  obtain ⟨nt_3, yt_3, et_3, lt_3, gt_3, H⟩ := H
  subst et_3
  obtain ⟨t_3_name, t_3_hue, t_3_width, t_3_dark, t_3_light⟩ := yt_3
  replace H := unShade_hid H
  obtain ⟨ab_t_3, ao_t_3, zt_3, At_3, z_t_3, ct_3_0, ct_3_1, ct_3_2, ct_3_3, ct_3_4⟩ := Go.Proofs.Ytpbbechgpgnpbaa.OShade.at_ Mhq0.out lt_3
  obtain rfl := Option.some.inj (gt_3.out.symm.trans z_t_3)
  subst At_3
  have ltt_3 := cell_lt ct_3_0
  replace ct_3_0 := cell_below HB.out ct_3_0
  replace ct_3_1 := cell_below HB.out ct_3_1
  replace ct_3_2 := cell_below HB.out ct_3_2
  replace ct_3_3 := cell_below HB.out ct_3_3
  replace ct_3_4 := cell_below HB.out ct_3_4
  clear z_t_3
  have b0t_3 : (0 : Int) ≤ (nt_3 : Int) := by omega
  have b1t_3 : (nt_3 : Int) < ((hq0.length : Nat) : Int) := by omega
  have b2t_3 : ((nt_3 : Int)).toNat = nt_3 := by omega
  have Hct_3_0 := Lib.hid ct_3_0
  replace ct_3_0 := cell_regrown ct_3_0
  have Hct_3_1 := Lib.hid ct_3_1
  replace ct_3_1 := cell_regrown ct_3_1
  have Hct_3_2 := Lib.hid ct_3_2
  replace ct_3_2 := cell_regrown ct_3_2
  have Hct_3_3 := Lib.hid ct_3_3
  replace ct_3_3 := cell_regrown ct_3_3
  have Hct_3_4 := Lib.hid ct_3_4
  replace ct_3_4 := cell_regrown ct_3_4
  replace H := bind_hid H
  obtain ⟨t_7, qt_7, H⟩ := H
  have nt_7 : ∀ d os, Calls Try.prog 72 #[.agg #[.string t_3_name, .int .i64 t_3_hue, .int .i64 t_3_width, .int .i64 t_3_dark, .int .i64 t_3_light], .int .i64 hue, .int .i64 hq2] (Go.Sort.grow (redrawn w d) os) fun e w'' => e = .returned (.bool t_7) ∧ ∃ p : Regrown, w'' = Go.Sort.grow (redrawn w p.d) p.os := fun d os => Calls.regrown_of (Go.Proofs.Ytpbbechgpgnpbaa.GiTakesIn.C ((Go.Proofs.Ytpbbechgpgnpbaa.PShade.Shade.mk t_3_name t_3_hue t_3_width t_3_dark t_3_light)) (hue) (hq2)  _    qt_7)
  replace H := join_hid H
  cases t_7 with
  | false =>
    replace H := ite_f H
    replace H := app_hid H
    refine wp_region_quiet_below (by kernel_rfl) (by kernel_rfl) ?_
    repeat (go_big_quiet_step (first | (go_at_call 72; exact nt_7 _ _)))
    refine wpQuiet_nil ?_
    intro Y1 hY1
    replace hY1 := below_class hY1
    clear nt_7
    replace Fq0 := HFq0.out
    clear HFq0
    replace Fq1 := HFq1.out
    clear HFq1
    replace Fq2 := HFq2.out
    clear HFq2
    replace Fq3 := HFq3.out
    clear HFq3
    replace ct_3_0 := Hct_3_0.out
    clear Hct_3_0
    replace ct_3_1 := Hct_3_1.out
    clear Hct_3_1
    replace ct_3_2 := Hct_3_2.out
    clear Hct_3_2
    replace ct_3_3 := Hct_3_3.out
    clear Hct_3_3
    replace ct_3_4 := Hct_3_4.out
    clear Hct_3_4
    have HBY1 := Lib.hid (Below.step HB.out hY1)
    replace Fq0 := cell_below hY1 Fq0
    replace Fq1 := cell_below hY1 Fq1
    replace Fq2 := cell_below hY1 Fq2
    replace Fq3 := cell_below hY1 Fq3
    replace ct_3_0 := cell_below hY1 ct_3_0
    replace ct_3_1 := cell_below hY1 ct_3_1
    replace ct_3_2 := cell_below hY1 ct_3_2
    replace ct_3_3 := cell_below hY1 ct_3_3
    replace ct_3_4 := cell_below hY1 ct_3_4
    clear hY1
    obtain rfl := ret_hid H
    go_wp2_with fail
    go_ret
    exact ⟨rfl, HBY1.out⟩
  | true =>
    replace H := ite_t H
    replace H := bind_hid H
    obtain ⟨t_12, qt_12, H⟩ := H
    have nt_12 : ∀ d os, Calls Try.prog 86 #[.slice Ahq3 hq3.length chq3, .int .i64 hue, .int .i64 hq2] (Go.Sort.grow (redrawn w d) os) fun e w'' => e = .returned (.bool t_12) ∧ ∃ p : Regrown, w'' = Go.Sort.grow (redrawn w p.d) p.os := fun d os => Calls.regrown_of (Go.Proofs.Ytpbbechgpgnpbaa.GiIsFree.C (hq3) (hue) (hq2) Ahq3 chq3 _   (Lib.hid (Cells.below (Cells.below Mhq3.out HB.out) (below_regrown _ _ _))) Nhq3 qt_12)
    replace H := app_hid H
    refine wp_region_quiet_below (by kernel_rfl) (by kernel_rfl) ?_
    repeat (go_big_quiet_step (first | (go_at_call 72; exact nt_7 _ _) | (go_at_call 86; exact nt_12 _ _)))
    refine wpQuiet_nil ?_
    intro Y1 hY1
    replace hY1 := below_class hY1
    clear nt_7 nt_12
    replace Fq0 := HFq0.out
    clear HFq0
    replace Fq1 := HFq1.out
    clear HFq1
    replace Fq2 := HFq2.out
    clear HFq2
    replace Fq3 := HFq3.out
    clear HFq3
    replace ct_3_0 := Hct_3_0.out
    clear Hct_3_0
    replace ct_3_1 := Hct_3_1.out
    clear Hct_3_1
    replace ct_3_2 := Hct_3_2.out
    clear Hct_3_2
    replace ct_3_3 := Hct_3_3.out
    clear Hct_3_3
    replace ct_3_4 := Hct_3_4.out
    clear Hct_3_4
    have HBY1 := Lib.hid (Below.step HB.out hY1)
    replace Fq0 := cell_below hY1 Fq0
    replace Fq1 := cell_below hY1 Fq1
    replace Fq2 := cell_below hY1 Fq2
    replace Fq3 := cell_below hY1 Fq3
    replace ct_3_0 := cell_below hY1 ct_3_0
    replace ct_3_1 := cell_below hY1 ct_3_1
    replace ct_3_2 := cell_below hY1 ct_3_2
    replace ct_3_3 := cell_below hY1 ct_3_3
    replace ct_3_4 := cell_below hY1 ct_3_4
    clear hY1
    obtain rfl := ret_hid H
    go_wp2_with fail
    go_ret
    exact ⟨rfl, HBY1.out⟩
end Go.Proofs.Ytpbbechgpgnpbaa.GiCertainHues2

/- loop.example/g01062/impl.countHues as a plain function, and the contract of the program's: where the plain one has an answer, the program has it. Conditions: slices read as lists. -/
namespace Go.Proofs.Ytpbbechgpgnpbaa.GiCountHuesiCertainHues2
set_option linter.unusedVariables false
set_option linter.unusedSimpArgs false
open Go.RowKit
open Go.Proofs.Ytpbbechgpgnpbaa.Rowed Go.Proofs.Ytpbbechgpgnpbaa.Turn Go.Proofs.Ytpbbechgpgnpbaa.Aid Go.Proofs.Ytpbbechgpgnpbaa.GoP Go.Proofs.Ytpbbechgpgnpbaa.GoM

def l0 (hf0_0 : (List Go.Proofs.Ytpbbechgpgnpbaa.PShade.Shade)) (hf0_1 : Int) (hf0_2 : Int) (hf0_3 : (List Go.Proofs.Ytpbbechgpgnpbaa.PShade.Shade)) (k0 : Nat) (s : Int) (nx0 bk0 : Int → Option (Int)) : Option (Int) :=
  letK s fun count_3l0 =>
  Option.bind (Go.Proofs.Ytpbbechgpgnpbaa.GiCertainHues2.P (k0 : Int) hf0_0 hf0_1 hf0_2 hf0_3) fun (t_8 : Bool) =>
  iteK t_8
  (letK (IntKind.i64.wrap (count_3l0 + 1)) fun (t_10 : Int) =>
  appK nx0 (t_10))
  (appK nx0 (count_3l0))

def e0  (s : Int) : Option (Int) :=
  letK s fun count_3l0 =>
  some count_3l0

def P (hf0_0 : (List Go.Proofs.Ytpbbechgpgnpbaa.PShade.Shade)) (hf0_1 : Int) (hf0_2 : Int) (hf0_3 : (List Go.Proofs.Ytpbbechgpgnpbaa.PShade.Shade)) : Option (Int) :=
  cntK (l0 hf0_0 hf0_1 hf0_2 hf0_3) (360) 0 (0) (e0 )

set_option maxRecDepth 100000 in
set_option maxHeartbeats 2000000 in
theorem C (hf0_0 : (List Go.Proofs.Ytpbbechgpgnpbaa.PShade.Shade)) (hf0_1 : Int) (hf0_2 : Int) (hf0_3 : (List Go.Proofs.Ytpbbechgpgnpbaa.PShade.Shade)) (Ahf0_0 : Option Addr) (chf0_0 : Nat) (Ahf0_3 : Option Addr) (chf0_3 : Nat) (gf0_0 : Nat) (gf0_1 : Nat) (gf0_2 : Nat) (gf0_3 : Nat) (w : World) (Mhf0_0 : Hid (Cells w 5 Ahf0_0 hf0_0.length (Go.Proofs.Ytpbbechgpgnpbaa.PShade.flat hf0_0))) (Nhf0_0 : Hid (hf0_0.length ≤ 9223372036854775807)) (Mhf0_3 : Hid (Cells w 5 Ahf0_3 hf0_3.length (Go.Proofs.Ytpbbechgpgnpbaa.PShade.flat hf0_3))) (Nhf0_3 : Hid (hf0_3.length ≤ 9223372036854775807)) (Ff0_0h : Hid (w.cell? ⟨gf0_0, 0, none⟩ = some (.slice Ahf0_0 hf0_0.length chf0_0))) (Ff0_1h : Hid (w.cell? ⟨gf0_1, 0, none⟩ = some (.int .i64 hf0_1))) (Ff0_2h : Hid (w.cell? ⟨gf0_2, 0, none⟩ = some (.int .i64 hf0_2))) (Ff0_3h : Hid (w.cell? ⟨gf0_3, 0, none⟩ = some (.slice Ahf0_3 hf0_3.length chf0_3))) {r : Int} (H : Hid (P hf0_0 hf0_1 hf0_2 hf0_3 = some r)) :
    Calls Try.prog 84 #[.func (.func 90) #[] #[.pointer (some ⟨gf0_0, 0, none⟩), .pointer (some ⟨gf0_1, 0, none⟩), .pointer (some ⟨gf0_2, 0, none⟩), .pointer (some ⟨gf0_3, 0, none⟩)]] w (Gives (.int .i64 r) w) := by
  have HB := Lib.hid (Below.refl w.heap.size w)
  unfold P at H
  have Nhf0_0o := Nhf0_0.out
  have Nhf0_3o := Nhf0_3.out
  have Ff0_0 := Ff0_0h.out
  have Ff0_1 := Ff0_1h.out
  have Ff0_2 := Ff0_2h.out
  have Ff0_3 := Ff0_3h.out
  go_enter Try.func84, Try.ntmps84
  go_wp2_with fail
  go_loopg [5, 3] (360) (fun m_ v5_ v3_ wr => ∃ (k0 : Nat) (count_3l0 : Int), k0 + m_ = 360 ∧ v5_ = .int .i64 (k0 : Int) ∧ v3_ = .int .i64 count_3l0 ∧ Hid (cntK (l0 hf0_0 hf0_1 hf0_2 hf0_3) m_ k0 (count_3l0) (e0 ) = some r) ∧ Hid (Below w.heap.size w wr) ∧ wr.cell? ⟨gf0_0, 0, none⟩ = some (.slice Ahf0_0 hf0_0.length chf0_0) ∧ wr.cell? ⟨gf0_1, 0, none⟩ = some (.int .i64 hf0_1) ∧ wr.cell? ⟨gf0_2, 0, none⟩ = some (.int .i64 hf0_2) ∧ wr.cell? ⟨gf0_3, 0, none⟩ = some (.slice Ahf0_3 hf0_3.length chf0_3))
  case atStart => exact ⟨0, _, by omega, rfl, rfl, H, HB, Ff0_0, Ff0_1, Ff0_2, Ff0_3⟩
  case round =>
    obtain ⟨k0, count_3l0, hkm0, rfl, rfl, H, HBwr0, Ff0_0, Ff0_1, Ff0_2, Ff0_3⟩ := hrel
    rename World => wr0
    cases gk with
    | zero =>
      obtain rfl : k0 = 360 := by omega
      have hc0 : decide (((360 : Nat) : Int) < ((360 : Nat) : Int)) = false := by simp
      replace H := cnt_zero H
      unfold e0 at H
      replace H := let_hid H
      obtain ⟨_, rfl, H⟩ := H
      obtain rfl := ret_hid H
      go_wp2_with fail
      go_ret
      exact ⟨rfl, HBwr0.out⟩
    | succ m0 =>
      have hlt0 : k0 < 360 := by omega
      have hc0 : decide ((k0 : Int) < ((360 : Nat) : Int)) = true := by simp; omega
      replace H := cnt_succ H
      unfold l0 at H
      replace H := let_hid H
      obtain ⟨_, rfl, H⟩ := H
      replace H := bind_hid H
      obtain ⟨t_8, qt_8, H⟩ := H
      go_wp2_with fail
      go_at_call 90
      refine (Go.Proofs.Ytpbbechgpgnpbaa.GiCertainHues2.C ((k0 : Int)) (hf0_0) (hf0_1) (hf0_2) (hf0_3) Ahf0_0 chf0_0 Ahf0_3 chf0_3 (gf0_0) (gf0_1) (gf0_2) (gf0_3) _   (Lib.hid (Cells.below Mhf0_0.out HBwr0.out)) Nhf0_0 (Lib.hid (Cells.below Mhf0_3.out HBwr0.out)) Nhf0_3 (Lib.hid Ff0_0) (Lib.hid Ff0_1) (Lib.hid Ff0_2) (Lib.hid Ff0_3) qt_8).mono ?_
      rintro e_t_8 wt_8 ⟨rfl, bt_8⟩
      have HBwt_8 := Lib.hid (Below.step HBwr0.out bt_8)
      replace Ff0_0 := cell_below bt_8 Ff0_0
      replace Ff0_1 := cell_below bt_8 Ff0_1
      replace Ff0_2 := cell_below bt_8 Ff0_2
      replace Ff0_3 := cell_below bt_8 Ff0_3
      clear bt_8
      cases t_8 with
      | false =>
        replace H := ite_f H
        replace H := app_hid H
        go_wp2_with fail
        go_roundg m0
        case measure => omega
        case rel => exact ⟨k0 + 1, _, by omega, by go_num, rfl, H, HBwt_8, Ff0_0, Ff0_1, Ff0_2, Ff0_3⟩
      | true =>
        replace H := ite_t H
        replace H := let_hid H
        obtain ⟨t_10, ht_10, H⟩ := H
        replace H := app_hid H
        go_wp2_with fail
        go_roundg m0
        case measure => omega
        case rel => exact ⟨k0 + 1, _, by omega, by go_num, rfl, H, HBwt_8, Ff0_0, Ff0_1, Ff0_2, Ff0_3⟩
end Go.Proofs.Ytpbbechgpgnpbaa.GiCountHuesiCertainHues2

/- loop.example/g01062/impl.CertainHues as a plain function, and the contract of the program's: where the plain one has an answer, the program has it. Conditions: slices read as lists. -/
namespace Go.Proofs.Ytpbbechgpgnpbaa.GiCertainHues
set_option linter.unusedVariables false
set_option linter.unusedSimpArgs false
open Go.RowKit
open Go.Proofs.Ytpbbechgpgnpbaa.Rowed Go.Proofs.Ytpbbechgpgnpbaa.Turn Go.Proofs.Ytpbbechgpgnpbaa.Aid Go.Proofs.Ytpbbechgpgnpbaa.GoP Go.Proofs.Ytpbbechgpgnpbaa.GoM

def P (list : (List Go.Proofs.Ytpbbechgpgnpbaa.PShade.Shade)) (name : ByteArray) (light : Int) : Option (Int × Bool) :=
  Option.bind (Go.Proofs.Ytpbbechgpgnpbaa.GiAreShades.P list) fun (t_6 : Bool) =>
  letK (!t_6) fun (t_7 : Bool) =>
  joinK (fun (t_12 : Bool) =>
  iteK t_12
  (some (0, false))
  (Option.bind (Go.Proofs.Ytpbbechgpgnpbaa.GxSlicesIndexFuncLoopExampleG01062ImplShadeLoopExampleG01062ImplShadeiCertainHues1.P list name) fun (t_17 : Int) =>
  letK (decide (t_17 < 0)) fun (t_21 : Bool) =>
  iteK t_21
  (some (0, false))
  (Option.bind (Go.Proofs.Ytpbbechgpgnpbaa.GxSlicesCloneLoopExampleG01062ImplShadeLoopExampleG01062ImplShade.P list) fun (t_25 : (List Go.Proofs.Ytpbbechgpgnpbaa.PShade.Shade)) =>
  letK (IntKind.i64.wrap (t_17 + 1)) fun (t_28 : Int) =>
  Option.bind (Go.Proofs.Ytpbbechgpgnpbaa.GxSlicesDeleteLoopExampleG01062ImplShadeLoopExampleG01062ImplShade.P t_25 t_17 t_28) fun (t_29 : (List Go.Proofs.Ytpbbechgpgnpbaa.PShade.Shade)) =>
  Option.bind (Go.Proofs.Ytpbbechgpgnpbaa.GiCountHuesiCertainHues2.P list t_17 light t_29) fun (t_33 : Int) =>
  some (t_33, true)))) fun jt_12 => iteK t_7 (appK jt_12 true) (Option.bind (Go.Proofs.Ytpbbechgpgnpbaa.GiIsLightness.P light) fun (t_10 : Bool) =>
  letK (!t_10) fun (t_11 : Bool) =>
  appK jt_12 t_11)

set_option maxRecDepth 100000 in
set_option maxHeartbeats 2000000 in
theorem C (list : (List Go.Proofs.Ytpbbechgpgnpbaa.PShade.Shade)) (name : ByteArray) (light : Int) (A0 : Option Addr) (c0 : Nat)  (w : World) (M0 : Hid (Cells w 5 A0 list.length (Go.Proofs.Ytpbbechgpgnpbaa.PShade.flat list))) (N0 : Hid (list.length ≤ 9223372036854775807)) (Q0 : Hid (Room A0 list.length c0))  {r0 : Int} {r1 : Bool} (H : Hid (P list name light = some (r0, r1))) :
    Calls Try.prog 46 #[.slice A0 list.length c0, .string name, .int .i64 light] w (Gives (.tuple #[.int .i64 r0, .bool r1]) w) := by
  have HB := Lib.hid (Below.refl w.heap.size w)
  unfold P at H
  have N0o := N0.out
  go_enter Try.func46, Try.ntmps46
  obtain ⟨w_list_0, hw_list_0⟩ : ∃ x, w.alloc (.cells #[.slice A0 list.length c0] 32) = x := ⟨_, rfl⟩
  have bw_list_0 : Below w.heap.size w w_list_0 := by rw [← hw_list_0]; exact (Below.refl _ _).alloc (Nat.le_refl _) _
  have HBw_list_0 := Lib.hid (Below.step HB.out bw_list_0)
  clear bw_list_0
  have klist_0_0 : w_list_0.cell? ⟨w.heap.size, 0, none⟩ = some (.slice A0 list.length c0) := by rw [← hw_list_0]; exact box_new _ _ _ 0 _ rfl
  obtain ⟨w_name_1, hw_name_1⟩ : ∃ x, w_list_0.alloc (.cells #[.string name] 9) = x := ⟨_, rfl⟩
  have bw_name_1 : Below w_list_0.heap.size w_list_0 w_name_1 := by rw [← hw_name_1]; exact (Below.refl _ _).alloc (Nat.le_refl _) _
  have HBw_name_1 := Lib.hid (Below.step HBw_list_0.out bw_name_1)
  have klist_0_0__10 := cell_below bw_name_1 klist_0_0
  clear bw_name_1
  have kname_1_0 : w_name_1.cell? ⟨w_list_0.heap.size, 0, none⟩ = some (.string name) := by rw [← hw_name_1]; exact box_new _ _ _ 0 _ rfl
  obtain ⟨w_light_2, hw_light_2⟩ : ∃ x, w_name_1.alloc (.cells #[.int .i64 light] 3) = x := ⟨_, rfl⟩
  have bw_light_2 : Below w_name_1.heap.size w_name_1 w_light_2 := by rw [← hw_light_2]; exact (Below.refl _ _).alloc (Nat.le_refl _) _
  have HBw_light_2 := Lib.hid (Below.step HBw_name_1.out bw_light_2)
  have klist_0_0__11 := cell_below bw_light_2 klist_0_0__10
  have kname_1_0__12 := cell_below bw_light_2 kname_1_0
  clear bw_light_2
  have klight_2_0 : w_light_2.cell? ⟨w_name_1.heap.size, 0, none⟩ = some (.int .i64 light) := by rw [← hw_light_2]; exact box_new _ _ _ 0 _ rfl
  replace H := bind_hid H
  obtain ⟨t_6, qt_6, H⟩ := H
  go_wp2_with fail
  clear klist_0_0 klist_0_0__10 kname_1_0
  go_at_call 22
  refine (Go.Proofs.Ytpbbechgpgnpbaa.GiAreShades.C (list) A0 c0 _   (Lib.hid (Cells.below M0.out HBw_light_2.out)) N0 qt_6).mono ?_
  rintro e_t_6 wt_6 ⟨rfl, bt_6⟩
  have HBwt_6 := Lib.hid (Below.step HBw_light_2.out bt_6)
  replace klist_0_0__11 := cell_below bt_6 klist_0_0__11
  replace kname_1_0__12 := cell_below bt_6 kname_1_0__12
  replace klight_2_0 := cell_below bt_6 klight_2_0
  clear bt_6
  cases t_6 with
  | false =>
    replace H := let_hid H
    obtain ⟨t_7, ht_7, H⟩ := H
    obtain rfl : t_7 = true := ht_7.symm
    replace H := join_hid H
    replace H := ite_t H
    replace H := app_hid H
    replace H := ite_t H
    cases ret_hid H
    go_wp2_with fail
    go_ret2
    exact ⟨rfl, HBwt_6.out⟩
  | true =>
    replace H := let_hid H
    obtain ⟨t_7, ht_7, H⟩ := H
    obtain rfl : t_7 = false := ht_7.symm
    replace H := join_hid H
    replace H := ite_f H
    replace H := bind_hid H
    obtain ⟨t_10, qt_10, H⟩ := H
    go_wp2_with fail
    go_at_call 59
    refine (Go.Proofs.Ytpbbechgpgnpbaa.GiIsLightness.C (light)  _    qt_10).mono ?_
    rintro e_t_10 wt_10 ⟨rfl, bt_10⟩
    have HBwt_10 := Lib.hid (Below.step HBwt_6.out bt_10)
    replace klist_0_0__11 := cell_below bt_10 klist_0_0__11
    replace kname_1_0__12 := cell_below bt_10 kname_1_0__12
    replace klight_2_0 := cell_below bt_10 klight_2_0
    clear bt_10
    cases t_10 with
    | false =>
      replace H := let_hid H
      obtain ⟨t_11, ht_11, H⟩ := H
      obtain rfl : t_11 = true := ht_11.symm
      replace H := app_hid H
      replace H := ite_t H
      cases ret_hid H
      go_wp2_with fail
      go_ret2
      exact ⟨rfl, HBwt_10.out⟩
    | true =>
      replace H := let_hid H
      obtain ⟨t_11, ht_11, H⟩ := H
      obtain rfl : t_11 = false := ht_11.symm
      replace H := app_hid H
      replace H := ite_f H
      replace H := bind_hid H
      obtain ⟨t_17, qt_17, H⟩ := H
      go_wp2_with fail
      go_at_call 87
      refine (Go.Proofs.Ytpbbechgpgnpbaa.GxSlicesIndexFuncLoopExampleG01062ImplShadeLoopExampleG01062ImplShadeiCertainHues1.C (list) (name) A0 c0 (w_list_0.heap.size) _   (Lib.hid (Cells.below M0.out HBwt_10.out)) N0 (Lib.hid kname_1_0__12) qt_17).mono ?_
      rintro e_t_17 wt_17 ⟨rfl, bt_17⟩
      have HBwt_17 := Lib.hid (Below.step HBwt_10.out bt_17)
      replace klist_0_0__11 := cell_below bt_17 klist_0_0__11
      replace kname_1_0__12 := cell_below bt_17 kname_1_0__12
      replace klight_2_0 := cell_below bt_17 klight_2_0
      clear bt_17
      obtain ⟨w_index_18, hw_index_18⟩ : ∃ x, wt_17.alloc (.cells #[.int .i64 t_17] 3) = x := ⟨_, rfl⟩
      have bw_index_18 : Below wt_17.heap.size wt_17 w_index_18 := by rw [← hw_index_18]; exact (Below.refl _ _).alloc (Nat.le_refl _) _
      have HBw_index_18 := Lib.hid (Below.step HBwt_17.out bw_index_18)
      have klist_0_0__13 := cell_below bw_index_18 klist_0_0__11
      have kname_1_0__14 := cell_below bw_index_18 kname_1_0__12
      have klight_2_0__15 := cell_below bw_index_18 klight_2_0
      clear bw_index_18
      have kindex_18_0 : w_index_18.cell? ⟨wt_17.heap.size, 0, none⟩ = some (.int .i64 t_17) := by rw [← hw_index_18]; exact box_new _ _ _ 0 _ rfl
      replace H := let_hid H
      obtain ⟨t_21, ht_21, H⟩ := H
      cases t_21 with
      | false =>
        replace H := ite_f H
        go_wp2_with fail
        clear klist_0_0__11 kname_1_0__12 klight_2_0
        have bd6 : Below w_index_18.heap.size w_index_18 w_index_18.drew := (Below.refl _ _).drew
        have HBw_index_18.drew := Lib.hid (Below.step HBw_index_18.out bd6)
        replace klist_0_0__13 := cell_below bd6 klist_0_0__13
        replace kname_1_0__14 := cell_below bd6 kname_1_0__14
        replace klight_2_0__15 := cell_below bd6 klight_2_0__15
        replace kindex_18_0 := cell_below bd6 kindex_18_0
        clear bd6
        replace H := bind_hid H
        obtain ⟨t_25, qt_25, H⟩ := H
        replace H := let_hid H
        obtain ⟨t_28, ht_28, H⟩ := H
        replace H := bind_hid H
        obtain ⟨t_29, qt_29, H⟩ := H
        obtain ⟨w_others_30_p54, hw_others_30_p54⟩ : ∃ x, w_index_18.drew.alloc (.cells #[.slice none 0 0] 32) = x := ⟨_, rfl⟩
        have bw_others_30_p54 : Below w_index_18.drew.heap.size w_index_18.drew w_others_30_p54 := by rw [← hw_others_30_p54]; exact (Below.refl _ _).alloc (Nat.le_refl _) _
        have Dothers_30_list_0_p54 := Lib.hid (apart_box klist_0_0__13)
        have Dothers_30_name_1_p54 := Lib.hid (apart_box kname_1_0__14)
        have Dothers_30_light_2_p54 := Lib.hid (apart_box klight_2_0__15)
        have Dothers_30_index_18_p54 := Lib.hid (apart_box kindex_18_0)
        have HBw_others_30_p54 := Lib.hid (Below.step HBw_index_18.drew.out bw_others_30_p54)
        have klist_0_0__50_p54 := cell_below bw_others_30_p54 klist_0_0__13
        have kname_1_0__51_p54 := cell_below bw_others_30_p54 kname_1_0__14
        have klight_2_0__52_p54 := cell_below bw_others_30_p54 klight_2_0__15
        have kindex_18_0__53_p54 := cell_below bw_others_30_p54 kindex_18_0
        have kothers_30_0_p54 : w_others_30_p54.cell? ⟨w_index_18.heap.size, 0, none⟩ = some (.slice none 0 0) := by rw [← hw_others_30_p54]; exact box_new _ _ _ 0 _ rfl
        have Oothers_30_p54 : Hid (w_others_30_p54.ownsRow w.heap.size 32 1 (.slice (some ⟨w_index_18.heap.size, 0, none⟩) 1 1) 1 [.slice none 0 0]) := Lib.hid (by rw [← hw_others_30_p54]; exact own_laid (n := 1) HBw_index_18.drew.out.size rfl rfl (by unfold maxLen; omega))
        go_region_held3 (fun w' => w'.cell? ⟨w.heap.size, 0, none⟩ = some (.slice A0 list.length c0) ∧ w'.cell? ⟨w_list_0.heap.size, 0, none⟩ = some (.string name) ∧ w'.cell? ⟨w_name_1.heap.size, 0, none⟩ = some (.int .i64 light) ∧ w'.cell? ⟨wt_17.heap.size, 0, none⟩ = some (.int .i64 t_17)) (first | exact ⟨klist_0_0__13, kname_1_0__14, klight_2_0__15, kindex_18_0⟩ | exact ⟨klist_0_0__13_p25, kname_1_0__14_p25, klight_2_0__15_p25, kindex_18_0_p25⟩ | exact ⟨klist_0_0__13_p25_p26, kname_1_0__14_p25_p26, klight_2_0__15_p25_p26, kindex_18_0_p25_p26⟩ | exact ⟨klist_0_0__27_p31, kname_1_0__28_p31, klight_2_0__29_p31, kindex_18_0_p25_p26__30_p31⟩ | exact ⟨klist_0_0__32_p37, kname_1_0__33_p37, klight_2_0__34_p37, kindex_18_0_p25_p26__35_p37⟩ | exact ⟨klist_0_0__38_p42, kname_1_0__39_p42, klight_2_0__40_p42, kindex_18_0_p25__41_p42⟩ | exact ⟨klist_0_0__38_p42_p43, kname_1_0__39_p42_p43, klight_2_0__40_p42_p43, kindex_18_0_p25__41_p42_p43⟩ | exact ⟨klist_0_0__44_p49, kname_1_0__45_p49, klight_2_0__46_p49, kindex_18_0_p25__47_p49⟩ | exact ⟨klist_0_0__50_p54, kname_1_0__51_p54, klight_2_0__52_p54, kindex_18_0__53_p54⟩ | exact ⟨klist_0_0__50_p54_p55, kname_1_0__51_p54_p55, klight_2_0__52_p54_p55, kindex_18_0__53_p54_p55⟩ | exact ⟨klist_0_0__50_p54_p55_p56, kname_1_0__51_p54_p55_p56, klight_2_0__52_p54_p55_p56, kindex_18_0__53_p54_p55_p56⟩ | exact ⟨klist_0_0__57_p62, kname_1_0__58_p62, klight_2_0__59_p62, kindex_18_0__60_p62⟩)
            (first
              | (go_at_call 75
                 refine (Go.Proofs.Ytpbbechgpgnpbaa.GxSlicesCloneLoopExampleG01062ImplShadeLoopExampleG01062ImplShade.C (list) A0 c0 _   (Lib.hid (Cells.below M0.out HBw_index_18.drew.out)) N0 Q0 qt_25).mono ?_
                 rintro e_t_25_p25 wt_25_p25 ⟨At_25_p25, ct_25_p25, rfl, ot_25_p25, bt_25_p25⟩
                 have Dt_25_list_0_p25 := Lib.hid (apart_callbox ot_25_p25 klist_0_0__13)
                 have Dt_25_name_1_p25 := Lib.hid (apart_callbox ot_25_p25 kname_1_0__14)
                 have Dt_25_light_2_p25 := Lib.hid (apart_callbox ot_25_p25 klight_2_0__15)
                 have Dt_25_index_18_p25 := Lib.hid (apart_callbox ot_25_p25 kindex_18_0)
                 have Ot_25_p25 := Lib.hid (own_lower ot_25_p25 HBw_index_18.drew.out.size)
                 have HBwt_25_p25 := Lib.hid (Below.step HBw_index_18.drew.out bt_25_p25)
                 have klist_0_0__13_p25 := cell_below bt_25_p25 klist_0_0__13
                 have kname_1_0__14_p25 := cell_below bt_25_p25 kname_1_0__14
                 have klight_2_0__15_p25 := cell_below bt_25_p25 klight_2_0__15
                 have kindex_18_0_p25 := cell_below bt_25_p25 kindex_18_0
                 clear qt_25
                 obtain ⟨w_others_30_p42, hw_others_30_p42⟩ : ∃ x, wt_25_p25.alloc (.cells #[.slice none 0 0] 32) = x := ⟨_, rfl⟩
                 have bw_others_30_p42 : Below wt_25_p25.heap.size wt_25_p25 w_others_30_p42 := by rw [← hw_others_30_p42]; exact (Below.refl _ _).alloc (Nat.le_refl _) _
                 have Dothers_30_t_25_p42 := Lib.hid (apart_fresh Ot_25_p25.out)
                 have Dothers_30_list_0_p42 := Lib.hid (apart_box klist_0_0__13_p25)
                 have Dothers_30_name_1_p42 := Lib.hid (apart_box kname_1_0__14_p25)
                 have Dothers_30_light_2_p42 := Lib.hid (apart_box klight_2_0__15_p25)
                 have Dothers_30_index_18_p42 := Lib.hid (apart_box kindex_18_0_p25)
                 have HBw_others_30_p42 := Lib.hid (Below.step HBwt_25_p25.out bw_others_30_p42)
                 have klist_0_0__38_p42 := cell_below bw_others_30_p42 klist_0_0__13_p25
                 have kname_1_0__39_p42 := cell_below bw_others_30_p42 kname_1_0__14_p25
                 have klight_2_0__40_p42 := cell_below bw_others_30_p42 klight_2_0__15_p25
                 have kindex_18_0_p25__41_p42 := cell_below bw_others_30_p42 kindex_18_0_p25
                 have Ot_25_p25_p42 := Lib.hid (own_below Ot_25_p25.out bw_others_30_p42)
                 have kothers_30_0_p42 : w_others_30_p42.cell? ⟨wt_25_p25.heap.size, 0, none⟩ = some (.slice none 0 0) := by rw [← hw_others_30_p42]; exact box_new _ _ _ 0 _ rfl
                 have Oothers_30_p42 : Hid (w_others_30_p42.ownsRow w.heap.size 32 1 (.slice (some ⟨wt_25_p25.heap.size, 0, none⟩) 1 1) 1 [.slice none 0 0]) := Lib.hid (by rw [← hw_others_30_p42]; exact own_laid (n := 1) HBwt_25_p25.out.size rfl rfl (by unfold maxLen; omega)))
              | (go_at_call 89
                 refine (Go.Proofs.Ytpbbechgpgnpbaa.GxSlicesDeleteLoopExampleG01062ImplShadeLoopExampleG01062ImplShade.C (t_25) (t_17) (t_28) At_25_p25 ct_25_p25 w.heap.size _   Ot_25_p25 (Lib.hid (own_max Ot_25_p25.out)) (Lib.hid HBwt_25_p25.out.size)  qt_29).mono ?_
                 rintro e_t_29_p26 wt_29_p26 ⟨At_29_p26, ct_29_p26, rfl, ot_29_p26, gt_29_p26, yt_29_p26⟩
                 have Pt_29_p26 := Lib.hid ot_29_p26
                 have Gt_29_p26 := Lib.hid gt_29_p26
                 have yt_29_p26 := Lib.hid yt_29_p26
                 have HBwt_29_p26 := Lib.hid (HBwt_25_p25.out.grown Gt_29_p26.out HBwt_25_p25.out.size (fun q hq => (Ot_25_p25.out.lt q hq).1))
                 have Dt_29_list_0_p26 : Hid (Apart At_29_p26 _) := Lib.hid (Go.Proofs.Ytpbbechgpgnpbaa.GoK.apart_from Dt_25_list_0_p25.out (fun a_ ha_ => by cases ha_; exact cell_lt klist_0_0__13_p25) yt_29_p26.out)
                 have Dt_29_name_1_p26 : Hid (Apart At_29_p26 _) := Lib.hid (Go.Proofs.Ytpbbechgpgnpbaa.GoK.apart_from Dt_25_name_1_p25.out (fun a_ ha_ => by cases ha_; exact cell_lt kname_1_0__14_p25) yt_29_p26.out)
                 have Dt_29_light_2_p26 : Hid (Apart At_29_p26 _) := Lib.hid (Go.Proofs.Ytpbbechgpgnpbaa.GoK.apart_from Dt_25_light_2_p25.out (fun a_ ha_ => by cases ha_; exact cell_lt klight_2_0__15_p25) yt_29_p26.out)
                 have Dt_29_index_18_p26 : Hid (Apart At_29_p26 _) := Lib.hid (Go.Proofs.Ytpbbechgpgnpbaa.GoK.apart_from Dt_25_index_18_p25.out (fun a_ ha_ => by cases ha_; exact cell_lt kindex_18_0_p25) yt_29_p26.out)
                 have klist_0_0__13_p25_p26 := cell_other klist_0_0__13_p25 Gt_29_p26.out Dt_25_list_0_p25.out
                 have kname_1_0__14_p25_p26 := cell_other kname_1_0__14_p25 Gt_29_p26.out Dt_25_name_1_p25.out
                 have klight_2_0__15_p25_p26 := cell_other klight_2_0__15_p25 Gt_29_p26.out Dt_25_light_2_p25.out
                 have kindex_18_0_p25_p26 := cell_other kindex_18_0_p25 Gt_29_p26.out Dt_25_index_18_p25.out
                 clear qt_29
                 obtain ⟨w_others_30_p31, hw_others_30_p31⟩ : ∃ x, wt_29_p26.alloc (.cells #[.slice none 0 0] 32) = x := ⟨_, rfl⟩
                 have bw_others_30_p31 : Below wt_29_p26.heap.size wt_29_p26 w_others_30_p31 := by rw [← hw_others_30_p31]; exact (Below.refl _ _).alloc (Nat.le_refl _) _
                 have Dothers_30_t_29_p31 := Lib.hid (apart_fresh Pt_29_p26.out)
                 have Dothers_30_list_0_p31 := Lib.hid (apart_box klist_0_0__13_p25_p26)
                 have Dothers_30_name_1_p31 := Lib.hid (apart_box kname_1_0__14_p25_p26)
                 have Dothers_30_light_2_p31 := Lib.hid (apart_box klight_2_0__15_p25_p26)
                 have Dothers_30_index_18_p31 := Lib.hid (apart_box kindex_18_0_p25_p26)
                 have HBw_others_30_p31 := Lib.hid (Below.step HBwt_29_p26.out bw_others_30_p31)
                 have klist_0_0__27_p31 := cell_below bw_others_30_p31 klist_0_0__13_p25_p26
                 have kname_1_0__28_p31 := cell_below bw_others_30_p31 kname_1_0__14_p25_p26
                 have klight_2_0__29_p31 := cell_below bw_others_30_p31 klight_2_0__15_p25_p26
                 have kindex_18_0_p25_p26__30_p31 := cell_below bw_others_30_p31 kindex_18_0_p25_p26
                 have Pt_29_p26_p31 := Lib.hid (own_below Pt_29_p26.out bw_others_30_p31)
                 have kothers_30_0_p31 : w_others_30_p31.cell? ⟨wt_29_p26.heap.size, 0, none⟩ = some (.slice none 0 0) := by rw [← hw_others_30_p31]; exact box_new _ _ _ 0 _ rfl
                 have Oothers_30_p31 : Hid (w_others_30_p31.ownsRow w.heap.size 32 1 (.slice (some ⟨wt_29_p26.heap.size, 0, none⟩) 1 1) 1 [.slice none 0 0]) := Lib.hid (by rw [← hw_others_30_p31]; exact own_laid (n := 1) HBwt_29_p26.out.size rfl rfl (by unfold maxLen; omega))
                 obtain ⟨wb31_31_p37, hwb31_31_p37⟩ : ∃ x, (w_others_30_p31).setCell ⟨wt_29_p26.heap.size, 0, none⟩ (.slice At_29_p26 t_29.length ct_29_p26) = x := ⟨_, rfl⟩
                 have z0b31_31_p37 := Oothers_30_p31.out.frozenAt 0
                 have Sb31_31_p37 := Lib.hid (own_stores [(0, .slice At_29_p26 t_29.length ct_29_p26)] Oothers_30_p31.out)
                 have Pb31_31_p37 : Hid (wb31_31_p37.ownsRow w.heap.size 32 1 (.slice (some ⟨wt_29_p26.heap.size, 0, none⟩) 1 1) 1 [.slice At_29_p26 t_29.length ct_29_p26]) := Lib.hid (by rw [← hwb31_31_p37]; exact Sb31_31_p37.out.1)
                 have Gb31_31_p37 : Hid (w_others_30_p31.grownBy wb31_31_p37 (Value.slice (some ⟨wt_29_p26.heap.size, 0, none⟩) 1 1).ownBlock) := Lib.hid (by rw [← hwb31_31_p37]; exact Sb31_31_p37.out.2)
                 have HBwb31_31_p37 := Lib.hid (HBw_others_30_p31.out.grown Gb31_31_p37.out HBw_others_30_p31.out.size (fun q hq => (Oothers_30_p31.out.lt q hq).1))
                 have klist_0_0__32_p37 := cell_other klist_0_0__27_p31 Gb31_31_p37.out Dothers_30_list_0_p31.out
                 have kname_1_0__33_p37 := cell_other kname_1_0__28_p31 Gb31_31_p37.out Dothers_30_name_1_p31.out
                 have klight_2_0__34_p37 := cell_other klight_2_0__29_p31 Gb31_31_p37.out Dothers_30_light_2_p31.out
                 have kindex_18_0_p25_p26__35_p37 := cell_other kindex_18_0_p25_p26__30_p31 Gb31_31_p37.out Dothers_30_index_18_p31.out
                 have Pt_29_p26_p31_p37 := Lib.hid (own_other Pt_29_p26_p31.out Gb31_31_p37.out Dothers_30_t_29_p31.out)
                 have kothers_30_0_p31__36_p37 : wb31_31_p37.cell? ⟨wt_29_p26.heap.size, 0, none⟩ = some (.slice At_29_p26 t_29.length ct_29_p26) := Pb31_31_p37.out.cells rfl 0 _ rfl)
              | (go_at_call 89
                 refine (Go.Proofs.Ytpbbechgpgnpbaa.GxSlicesDeleteLoopExampleG01062ImplShadeLoopExampleG01062ImplShade.C (t_25) (t_17) (t_28) At_25_p25 ct_25_p25 w.heap.size _   Ot_25_p25_p42 (Lib.hid (own_max Ot_25_p25_p42.out)) (Lib.hid HBw_others_30_p42.out.size)  qt_29).mono ?_
                 rintro e_t_29_p43 wt_29_p43 ⟨At_29_p43, ct_29_p43, rfl, ot_29_p43, gt_29_p43, yt_29_p43⟩
                 have Pt_29_p43 := Lib.hid ot_29_p43
                 have Gt_29_p43 := Lib.hid gt_29_p43
                 have yt_29_p43 := Lib.hid yt_29_p43
                 have HBwt_29_p43 := Lib.hid (HBw_others_30_p42.out.grown Gt_29_p43.out HBw_others_30_p42.out.size (fun q hq => (Ot_25_p25_p42.out.lt q hq).1))
                 have Dt_29_list_0_p43 : Hid (Apart At_29_p43 _) := Lib.hid (Go.Proofs.Ytpbbechgpgnpbaa.GoK.apart_from Dt_25_list_0_p25.out (fun a_ ha_ => by cases ha_; exact cell_lt klist_0_0__38_p42) yt_29_p43.out)
                 have Dt_29_name_1_p43 : Hid (Apart At_29_p43 _) := Lib.hid (Go.Proofs.Ytpbbechgpgnpbaa.GoK.apart_from Dt_25_name_1_p25.out (fun a_ ha_ => by cases ha_; exact cell_lt kname_1_0__39_p42) yt_29_p43.out)
                 have Dt_29_light_2_p43 : Hid (Apart At_29_p43 _) := Lib.hid (Go.Proofs.Ytpbbechgpgnpbaa.GoK.apart_from Dt_25_light_2_p25.out (fun a_ ha_ => by cases ha_; exact cell_lt klight_2_0__40_p42) yt_29_p43.out)
                 have Dt_29_index_18_p43 : Hid (Apart At_29_p43 _) := Lib.hid (Go.Proofs.Ytpbbechgpgnpbaa.GoK.apart_from Dt_25_index_18_p25.out (fun a_ ha_ => by cases ha_; exact cell_lt kindex_18_0_p25__41_p42) yt_29_p43.out)
                 have Dt_29_others_30_p43 : Hid (Apart At_29_p43 _) := Lib.hid (Go.Proofs.Ytpbbechgpgnpbaa.GoK.apart_from (Apart.symm Dothers_30_t_25_p42.out) (fun a_ ha_ => by cases ha_; exact cell_lt kothers_30_0_p42) yt_29_p43.out)
                 have klist_0_0__38_p42_p43 := cell_other klist_0_0__38_p42 Gt_29_p43.out Dt_25_list_0_p25.out
                 have kname_1_0__39_p42_p43 := cell_other kname_1_0__39_p42 Gt_29_p43.out Dt_25_name_1_p25.out
                 have klight_2_0__40_p42_p43 := cell_other klight_2_0__40_p42 Gt_29_p43.out Dt_25_light_2_p25.out
                 have kindex_18_0_p25__41_p42_p43 := cell_other kindex_18_0_p25__41_p42 Gt_29_p43.out Dt_25_index_18_p25.out
                 have kothers_30_0_p42_p43 := cell_other kothers_30_0_p42 Gt_29_p43.out (Apart.symm Dothers_30_t_25_p42.out)
                 have Oothers_30_p42_p43 := Lib.hid (own_other Oothers_30_p42.out Gt_29_p43.out (Apart.symm Dothers_30_t_25_p42.out))
                 clear qt_29
                 obtain ⟨wb31_31_p49, hwb31_31_p49⟩ : ∃ x, (wt_29_p43).setCell ⟨wt_25_p25.heap.size, 0, none⟩ (.slice At_29_p43 t_29.length ct_29_p43) = x := ⟨_, rfl⟩
                 have z0b31_31_p49 := Oothers_30_p42_p43.out.frozenAt 0
                 have Sb31_31_p49 := Lib.hid (own_stores [(0, .slice At_29_p43 t_29.length ct_29_p43)] Oothers_30_p42_p43.out)
                 have Pb31_31_p49 : Hid (wb31_31_p49.ownsRow w.heap.size 32 1 (.slice (some ⟨wt_25_p25.heap.size, 0, none⟩) 1 1) 1 [.slice At_29_p43 t_29.length ct_29_p43]) := Lib.hid (by rw [← hwb31_31_p49]; exact Sb31_31_p49.out.1)
                 have Gb31_31_p49 : Hid (wt_29_p43.grownBy wb31_31_p49 (Value.slice (some ⟨wt_25_p25.heap.size, 0, none⟩) 1 1).ownBlock) := Lib.hid (by rw [← hwb31_31_p49]; exact Sb31_31_p49.out.2)
                 have HBwb31_31_p49 := Lib.hid (HBwt_29_p43.out.grown Gb31_31_p49.out HBwt_29_p43.out.size (fun q hq => (Oothers_30_p42_p43.out.lt q hq).1))
                 have klist_0_0__44_p49 := cell_other klist_0_0__38_p42_p43 Gb31_31_p49.out Dothers_30_list_0_p42.out
                 have kname_1_0__45_p49 := cell_other kname_1_0__39_p42_p43 Gb31_31_p49.out Dothers_30_name_1_p42.out
                 have klight_2_0__46_p49 := cell_other klight_2_0__40_p42_p43 Gb31_31_p49.out Dothers_30_light_2_p42.out
                 have kindex_18_0_p25__47_p49 := cell_other kindex_18_0_p25__41_p42_p43 Gb31_31_p49.out Dothers_30_index_18_p42.out
                 have Pt_29_p43_p49 := Lib.hid (own_other Pt_29_p43.out Gb31_31_p49.out (Apart.symm Dt_29_others_30_p43.out))
                 have kothers_30_0_p42_p43__48_p49 : wb31_31_p49.cell? ⟨wt_25_p25.heap.size, 0, none⟩ = some (.slice At_29_p43 t_29.length ct_29_p43) := Pb31_31_p49.out.cells rfl 0 _ rfl)
              | (go_at_call 75
                 refine (Go.Proofs.Ytpbbechgpgnpbaa.GxSlicesCloneLoopExampleG01062ImplShadeLoopExampleG01062ImplShade.C (list) A0 c0 _   (Lib.hid (Cells.below M0.out HBw_others_30_p54.out)) N0 Q0 qt_25).mono ?_
                 rintro e_t_25_p55 wt_25_p55 ⟨At_25_p55, ct_25_p55, rfl, ot_25_p55, bt_25_p55⟩
                 have Dt_25_list_0_p55 := Lib.hid (apart_callbox ot_25_p55 klist_0_0__50_p54)
                 have Dt_25_name_1_p55 := Lib.hid (apart_callbox ot_25_p55 kname_1_0__51_p54)
                 have Dt_25_light_2_p55 := Lib.hid (apart_callbox ot_25_p55 klight_2_0__52_p54)
                 have Dt_25_index_18_p55 := Lib.hid (apart_callbox ot_25_p55 kindex_18_0__53_p54)
                 have Dt_25_others_30_p55 := Lib.hid (apart_callbox ot_25_p55 kothers_30_0_p54)
                 have Ot_25_p55 := Lib.hid (own_lower ot_25_p55 HBw_others_30_p54.out.size)
                 have HBwt_25_p55 := Lib.hid (Below.step HBw_others_30_p54.out bt_25_p55)
                 have klist_0_0__50_p54_p55 := cell_below bt_25_p55 klist_0_0__50_p54
                 have kname_1_0__51_p54_p55 := cell_below bt_25_p55 kname_1_0__51_p54
                 have klight_2_0__52_p54_p55 := cell_below bt_25_p55 klight_2_0__52_p54
                 have kindex_18_0__53_p54_p55 := cell_below bt_25_p55 kindex_18_0__53_p54
                 have kothers_30_0_p54_p55 := cell_below bt_25_p55 kothers_30_0_p54
                 have Oothers_30_p54_p55 := Lib.hid (own_below Oothers_30_p54.out bt_25_p55)
                 clear qt_25)
              | (go_at_call 89
                 refine (Go.Proofs.Ytpbbechgpgnpbaa.GxSlicesDeleteLoopExampleG01062ImplShadeLoopExampleG01062ImplShade.C (t_25) (t_17) (t_28) At_25_p55 ct_25_p55 w.heap.size _   Ot_25_p55 (Lib.hid (own_max Ot_25_p55.out)) (Lib.hid HBwt_25_p55.out.size)  qt_29).mono ?_
                 rintro e_t_29_p56 wt_29_p56 ⟨At_29_p56, ct_29_p56, rfl, ot_29_p56, gt_29_p56, yt_29_p56⟩
                 have Pt_29_p56 := Lib.hid ot_29_p56
                 have Gt_29_p56 := Lib.hid gt_29_p56
                 have yt_29_p56 := Lib.hid yt_29_p56
                 have HBwt_29_p56 := Lib.hid (HBwt_25_p55.out.grown Gt_29_p56.out HBwt_25_p55.out.size (fun q hq => (Ot_25_p55.out.lt q hq).1))
                 have Dt_29_list_0_p56 : Hid (Apart At_29_p56 _) := Lib.hid (Go.Proofs.Ytpbbechgpgnpbaa.GoK.apart_from Dt_25_list_0_p55.out (fun a_ ha_ => by cases ha_; exact cell_lt klist_0_0__50_p54_p55) yt_29_p56.out)
                 have Dt_29_name_1_p56 : Hid (Apart At_29_p56 _) := Lib.hid (Go.Proofs.Ytpbbechgpgnpbaa.GoK.apart_from Dt_25_name_1_p55.out (fun a_ ha_ => by cases ha_; exact cell_lt kname_1_0__51_p54_p55) yt_29_p56.out)
                 have Dt_29_light_2_p56 : Hid (Apart At_29_p56 _) := Lib.hid (Go.Proofs.Ytpbbechgpgnpbaa.GoK.apart_from Dt_25_light_2_p55.out (fun a_ ha_ => by cases ha_; exact cell_lt klight_2_0__52_p54_p55) yt_29_p56.out)
                 have Dt_29_index_18_p56 : Hid (Apart At_29_p56 _) := Lib.hid (Go.Proofs.Ytpbbechgpgnpbaa.GoK.apart_from Dt_25_index_18_p55.out (fun a_ ha_ => by cases ha_; exact cell_lt kindex_18_0__53_p54_p55) yt_29_p56.out)
                 have Dt_29_others_30_p56 : Hid (Apart At_29_p56 _) := Lib.hid (Go.Proofs.Ytpbbechgpgnpbaa.GoK.apart_from Dt_25_others_30_p55.out (fun a_ ha_ => by cases ha_; exact cell_lt kothers_30_0_p54_p55) yt_29_p56.out)
                 have klist_0_0__50_p54_p55_p56 := cell_other klist_0_0__50_p54_p55 Gt_29_p56.out Dt_25_list_0_p55.out
                 have kname_1_0__51_p54_p55_p56 := cell_other kname_1_0__51_p54_p55 Gt_29_p56.out Dt_25_name_1_p55.out
                 have klight_2_0__52_p54_p55_p56 := cell_other klight_2_0__52_p54_p55 Gt_29_p56.out Dt_25_light_2_p55.out
                 have kindex_18_0__53_p54_p55_p56 := cell_other kindex_18_0__53_p54_p55 Gt_29_p56.out Dt_25_index_18_p55.out
                 have kothers_30_0_p54_p55_p56 := cell_other kothers_30_0_p54_p55 Gt_29_p56.out Dt_25_others_30_p55.out
                 have Oothers_30_p54_p55_p56 := Lib.hid (own_other Oothers_30_p54_p55.out Gt_29_p56.out Dt_25_others_30_p55.out)
                 clear qt_29
                 obtain ⟨wb31_31_p62, hwb31_31_p62⟩ : ∃ x, (wt_29_p56).setCell ⟨w_index_18.heap.size, 0, none⟩ (.slice At_29_p56 t_29.length ct_29_p56) = x := ⟨_, rfl⟩
                 have z0b31_31_p62 := Oothers_30_p54_p55_p56.out.frozenAt 0
                 have Sb31_31_p62 := Lib.hid (own_stores [(0, .slice At_29_p56 t_29.length ct_29_p56)] Oothers_30_p54_p55_p56.out)
                 have Pb31_31_p62 : Hid (wb31_31_p62.ownsRow w.heap.size 32 1 (.slice (some ⟨w_index_18.heap.size, 0, none⟩) 1 1) 1 [.slice At_29_p56 t_29.length ct_29_p56]) := Lib.hid (by rw [← hwb31_31_p62]; exact Sb31_31_p62.out.1)
                 have Gb31_31_p62 : Hid (wt_29_p56.grownBy wb31_31_p62 (Value.slice (some ⟨w_index_18.heap.size, 0, none⟩) 1 1).ownBlock) := Lib.hid (by rw [← hwb31_31_p62]; exact Sb31_31_p62.out.2)
                 have HBwb31_31_p62 := Lib.hid (HBwt_29_p56.out.grown Gb31_31_p62.out HBwt_29_p56.out.size (fun q hq => (Oothers_30_p54_p55_p56.out.lt q hq).1))
                 have klist_0_0__57_p62 := cell_other klist_0_0__50_p54_p55_p56 Gb31_31_p62.out Dothers_30_list_0_p54.out
                 have kname_1_0__58_p62 := cell_other kname_1_0__51_p54_p55_p56 Gb31_31_p62.out Dothers_30_name_1_p54.out
                 have klight_2_0__59_p62 := cell_other klight_2_0__52_p54_p55_p56 Gb31_31_p62.out Dothers_30_light_2_p54.out
                 have kindex_18_0__60_p62 := cell_other kindex_18_0__53_p54_p55_p56 Gb31_31_p62.out Dothers_30_index_18_p54.out
                 have Pt_29_p56_p62 := Lib.hid (own_other Pt_29_p56.out Gb31_31_p62.out (Apart.symm Dt_29_others_30_p56.out))
                 have kothers_30_0_p54_p55_p56__61_p62 : wb31_31_p62.cell? ⟨w_index_18.heap.size, 0, none⟩ = some (.slice At_29_p56 t_29.length ct_29_p56) := Pb31_31_p62.out.cells rfl 0 _ rfl))
        · skip
          replace H := bind_hid H
          obtain ⟨t_33, qt_33, H⟩ := H
          go_wp2_with fail
          go_at_call 84
          refine (Go.Proofs.Ytpbbechgpgnpbaa.GiCountHuesiCertainHues2.C (list) (t_17) (light) (t_29) A0 c0 At_29_p26 ct_29_p26 (w.heap.size) (wt_17.heap.size) (w_name_1.heap.size) (wt_29_p26.heap.size) _   (Lib.hid (Cells.below M0.out HBwb31_31_p37.out)) N0 (Lib.hid (own_cells Pt_29_p26_p31_p37.out)) (Lib.hid (own_max Pt_29_p26_p31_p37.out)) (Lib.hid klist_0_0__32_p37) (Lib.hid kindex_18_0_p25_p26__35_p37) (Lib.hid klight_2_0__34_p37) (Lib.hid kothers_30_0_p31__36_p37) qt_33).mono ?_
          rintro e_t_33 wt_33 ⟨rfl, bt_33⟩
          have HBwt_33 := Lib.hid (Below.step HBwb31_31_p37.out bt_33)
          replace klist_0_0__32_p37 := cell_below bt_33 klist_0_0__32_p37
          replace kname_1_0__33_p37 := cell_below bt_33 kname_1_0__33_p37
          replace klight_2_0__34_p37 := cell_below bt_33 klight_2_0__34_p37
          replace kindex_18_0_p25_p26__35_p37 := cell_below bt_33 kindex_18_0_p25_p26__35_p37
          replace kothers_30_0_p31__36_p37 := cell_below bt_33 kothers_30_0_p31__36_p37
          replace Pt_29_p26_p31_p37 := Lib.hid (own_below Pt_29_p26_p31_p37.out bt_33)
          replace Pb31_31_p37 := Lib.hid (own_below Pb31_31_p37.out bt_33)
          clear bt_33
          cases ret_hid H
          go_wp2_with fail
          go_ret2
          exact ⟨rfl, HBwt_33.out⟩
        · skip
          replace H := bind_hid H
          obtain ⟨t_33, qt_33, H⟩ := H
          go_wp2_with fail
          go_at_call 84
          refine (Go.Proofs.Ytpbbechgpgnpbaa.GiCountHuesiCertainHues2.C (list) (t_17) (light) (t_29) A0 c0 At_29_p43 ct_29_p43 (w.heap.size) (wt_17.heap.size) (w_name_1.heap.size) (wt_25_p25.heap.size) _   (Lib.hid (Cells.below M0.out HBwb31_31_p49.out)) N0 (Lib.hid (own_cells Pt_29_p43_p49.out)) (Lib.hid (own_max Pt_29_p43_p49.out)) (Lib.hid klist_0_0__44_p49) (Lib.hid kindex_18_0_p25__47_p49) (Lib.hid klight_2_0__46_p49) (Lib.hid kothers_30_0_p42_p43__48_p49) qt_33).mono ?_
          rintro e_t_33 wt_33 ⟨rfl, bt_33⟩
          have HBwt_33 := Lib.hid (Below.step HBwb31_31_p49.out bt_33)
          replace klist_0_0__44_p49 := cell_below bt_33 klist_0_0__44_p49
          replace kname_1_0__45_p49 := cell_below bt_33 kname_1_0__45_p49
          replace klight_2_0__46_p49 := cell_below bt_33 klight_2_0__46_p49
          replace kindex_18_0_p25__47_p49 := cell_below bt_33 kindex_18_0_p25__47_p49
          replace kothers_30_0_p42_p43__48_p49 := cell_below bt_33 kothers_30_0_p42_p43__48_p49
          replace Pt_29_p43_p49 := Lib.hid (own_below Pt_29_p43_p49.out bt_33)
          replace Pb31_31_p49 := Lib.hid (own_below Pb31_31_p49.out bt_33)
          clear bt_33
          cases ret_hid H
          go_wp2_with fail
          go_ret2
          exact ⟨rfl, HBwt_33.out⟩
        · skip
          replace H := bind_hid H
          obtain ⟨t_33, qt_33, H⟩ := H
          go_wp2_with fail
          go_at_call 84
          refine (Go.Proofs.Ytpbbechgpgnpbaa.GiCountHuesiCertainHues2.C (list) (t_17) (light) (t_29) A0 c0 At_29_p56 ct_29_p56 (w.heap.size) (wt_17.heap.size) (w_name_1.heap.size) (w_index_18.heap.size) _   (Lib.hid (Cells.below M0.out HBwb31_31_p62.out)) N0 (Lib.hid (own_cells Pt_29_p56_p62.out)) (Lib.hid (own_max Pt_29_p56_p62.out)) (Lib.hid klist_0_0__57_p62) (Lib.hid kindex_18_0__60_p62) (Lib.hid klight_2_0__59_p62) (Lib.hid kothers_30_0_p54_p55_p56__61_p62) qt_33).mono ?_
          rintro e_t_33 wt_33 ⟨rfl, bt_33⟩
          have HBwt_33 := Lib.hid (Below.step HBwb31_31_p62.out bt_33)
          replace klist_0_0__57_p62 := cell_below bt_33 klist_0_0__57_p62
          replace kname_1_0__58_p62 := cell_below bt_33 kname_1_0__58_p62
          replace klight_2_0__59_p62 := cell_below bt_33 klight_2_0__59_p62
          replace kindex_18_0__60_p62 := cell_below bt_33 kindex_18_0__60_p62
          replace kothers_30_0_p54_p55_p56__61_p62 := cell_below bt_33 kothers_30_0_p54_p55_p56__61_p62
          replace Pt_29_p56_p62 := Lib.hid (own_below Pt_29_p56_p62.out bt_33)
          replace Pb31_31_p62 := Lib.hid (own_below Pb31_31_p62.out bt_33)
          clear bt_33
          cases ret_hid H
          go_wp2_with fail
          go_ret2
          exact ⟨rfl, HBwt_33.out⟩
      | true =>
        replace H := ite_t H
        cases ret_hid H
        go_wp2_with fail
        go_ret2
        exact ⟨rfl, HBw_index_18.out⟩
end Go.Proofs.Ytpbbechgpgnpbaa.GiCertainHues

/- loop.example/g01062/laws.eqShade as a plain function, and the contract of the program's: where the plain one has an answer, the program has it. Conditions: slices read as lists. -/
namespace Go.Proofs.Ytpbbechgpgnpbaa.GlEqShade
set_option linter.unusedVariables false
set_option linter.unusedSimpArgs false
open Go.RowKit
open Go.Proofs.Ytpbbechgpgnpbaa.Rowed Go.Proofs.Ytpbbechgpgnpbaa.Turn Go.Proofs.Ytpbbechgpgnpbaa.Aid Go.Proofs.Ytpbbechgpgnpbaa.GoP Go.Proofs.Ytpbbechgpgnpbaa.GoM

def P (a : Go.Proofs.Ytpbbechgpgnpbaa.PShade.Shade) (b : Go.Proofs.Ytpbbechgpgnpbaa.PShade.Shade) : Option (Bool) :=
  unShade a fun (a_name : ByteArray) (a_hue : Int) (a_width : Int) (a_dark : Int) (a_light : Int) =>
  unShade b fun (b_name : ByteArray) (b_hue : Int) (b_width : Int) (b_dark : Int) (b_light : Int) =>
  letK (!(a_name.toList == b_name.toList)) fun (t_7 : Bool) =>
  iteK t_7
  (some false)
  (letK (a_hue != b_hue) fun (t_13 : Bool) =>
  iteK t_13
  (some false)
  (letK (a_width != b_width) fun (t_19 : Bool) =>
  iteK t_19
  (some false)
  (letK (a_dark != b_dark) fun (t_25 : Bool) =>
  iteK t_25
  (some false)
  (letK (a_light != b_light) fun (t_31 : Bool) =>
  iteK t_31
  (some false)
  (some true)))))

set_option maxRecDepth 100000 in
set_option maxHeartbeats 2000000 in
theorem C (a : Go.Proofs.Ytpbbechgpgnpbaa.PShade.Shade) (b : Go.Proofs.Ytpbbechgpgnpbaa.PShade.Shade)   (w : World)   {r : Bool} (H : Hid (P a b = some r)) :
    Calls Try.prog 63 #[a.val, b.val] w (Gives (.bool r) w) := by
  have HB := Lib.hid (Below.refl w.heap.size w)
  unfold P at H
  obtain ⟨a_name, a_hue, a_width, a_dark, a_light⟩ := a
  replace H := unShade_hid H
  obtain ⟨b_name, b_hue, b_width, b_dark, b_light⟩ := b
  replace H := unShade_hid H
  unfold Go.Proofs.Ytpbbechgpgnpbaa.PShade.Shade.val
  go_enter Try.func63, Try.ntmps63
  obtain ⟨w_a_0, hw_a_0⟩ : ∃ x, w.alloc (.cells #[.string a_name, .int .i64 a_hue, .int .i64 a_width, .int .i64 a_dark, .int .i64 a_light] 26) = x := ⟨_, rfl⟩
  have bw_a_0 : Below w.heap.size w w_a_0 := by rw [← hw_a_0]; exact (Below.refl _ _).alloc (Nat.le_refl _) _
  have HBw_a_0 := Lib.hid (Below.step HB.out bw_a_0)
  clear bw_a_0
  have ka_0_0 : w_a_0.cell? ⟨w.heap.size, 0, none⟩ = some (.string a_name) := by rw [← hw_a_0]; exact box_new _ _ _ 0 _ rfl
  have ka_0_1 : w_a_0.cell? ⟨w.heap.size, 1, none⟩ = some (.int .i64 a_hue) := by rw [← hw_a_0]; exact box_new _ _ _ 1 _ rfl
  have ka_0_2 : w_a_0.cell? ⟨w.heap.size, 2, none⟩ = some (.int .i64 a_width) := by rw [← hw_a_0]; exact box_new _ _ _ 2 _ rfl
  have ka_0_3 : w_a_0.cell? ⟨w.heap.size, 3, none⟩ = some (.int .i64 a_dark) := by rw [← hw_a_0]; exact box_new _ _ _ 3 _ rfl
  have ka_0_4 : w_a_0.cell? ⟨w.heap.size, 4, none⟩ = some (.int .i64 a_light) := by rw [← hw_a_0]; exact box_new _ _ _ 4 _ rfl
  obtain ⟨w_b_1, hw_b_1⟩ : ∃ x, w_a_0.alloc (.cells #[.string b_name, .int .i64 b_hue, .int .i64 b_width, .int .i64 b_dark, .int .i64 b_light] 26) = x := ⟨_, rfl⟩
  have bw_b_1 : Below w_a_0.heap.size w_a_0 w_b_1 := by rw [← hw_b_1]; exact (Below.refl _ _).alloc (Nat.le_refl _) _
  have HBw_b_1 := Lib.hid (Below.step HBw_a_0.out bw_b_1)
  have ka_0_0__174 := cell_below bw_b_1 ka_0_0
  have ka_0_1__175 := cell_below bw_b_1 ka_0_1
  have ka_0_2__176 := cell_below bw_b_1 ka_0_2
  have ka_0_3__177 := cell_below bw_b_1 ka_0_3
  have ka_0_4__178 := cell_below bw_b_1 ka_0_4
  clear bw_b_1
  have kb_1_0 : w_b_1.cell? ⟨w_a_0.heap.size, 0, none⟩ = some (.string b_name) := by rw [← hw_b_1]; exact box_new _ _ _ 0 _ rfl
  have kb_1_1 : w_b_1.cell? ⟨w_a_0.heap.size, 1, none⟩ = some (.int .i64 b_hue) := by rw [← hw_b_1]; exact box_new _ _ _ 1 _ rfl
  have kb_1_2 : w_b_1.cell? ⟨w_a_0.heap.size, 2, none⟩ = some (.int .i64 b_width) := by rw [← hw_b_1]; exact box_new _ _ _ 2 _ rfl
  have kb_1_3 : w_b_1.cell? ⟨w_a_0.heap.size, 3, none⟩ = some (.int .i64 b_dark) := by rw [← hw_b_1]; exact box_new _ _ _ 3 _ rfl
  have kb_1_4 : w_b_1.cell? ⟨w_a_0.heap.size, 4, none⟩ = some (.int .i64 b_light) := by rw [← hw_b_1]; exact box_new _ _ _ 4 _ rfl
  replace H := let_hid H
  obtain ⟨t_7, ht_7, H⟩ := H
  cases t_7 with
  | false =>
    replace H := ite_f H
    replace H := let_hid H
    obtain ⟨t_13, ht_13, H⟩ := H
    cases t_13 with
    | false =>
      replace H := ite_f H
      replace H := let_hid H
      obtain ⟨t_19, ht_19, H⟩ := H
      cases t_19 with
      | false =>
        replace H := ite_f H
        replace H := let_hid H
        obtain ⟨t_25, ht_25, H⟩ := H
        cases t_25 with
        | false =>
          replace H := ite_f H
          replace H := let_hid H
          obtain ⟨t_31, ht_31, H⟩ := H
          cases t_31 with
          | false =>
            replace H := ite_f H
            obtain rfl := ret_hid H
            go_wp2_with fail
            go_ret
            exact ⟨rfl, HBw_b_1.out⟩
          | true =>
            replace H := ite_t H
            obtain rfl := ret_hid H
            go_wp2_with fail
            go_ret
            exact ⟨rfl, HBw_b_1.out⟩
        | true =>
          replace H := ite_t H
          obtain rfl := ret_hid H
          go_wp2_with fail
          go_ret
          exact ⟨rfl, HBw_b_1.out⟩
      | true =>
        replace H := ite_t H
        obtain rfl := ret_hid H
        go_wp2_with fail
        go_ret
        exact ⟨rfl, HBw_b_1.out⟩
    | true =>
      replace H := ite_t H
      obtain rfl := ret_hid H
      go_wp2_with fail
      go_ret
      exact ⟨rfl, HBw_b_1.out⟩
  | true =>
    replace H := ite_t H
    obtain rfl := ret_hid H
    go_wp2_with fail
    go_ret
    exact ⟨rfl, HBw_b_1.out⟩
end Go.Proofs.Ytpbbechgpgnpbaa.GlEqShade

/- loop.example/g01062/laws.eqShadeS as a plain function, and the contract of the program's: where the plain one has an answer, the program has it. Conditions: slices read as lists. -/
namespace Go.Proofs.Ytpbbechgpgnpbaa.GlEqShadeS
set_option linter.unusedVariables false
set_option linter.unusedSimpArgs false
open Go.RowKit
open Go.Proofs.Ytpbbechgpgnpbaa.Rowed Go.Proofs.Ytpbbechgpgnpbaa.Turn Go.Proofs.Ytpbbechgpgnpbaa.Aid Go.Proofs.Ytpbbechgpgnpbaa.GoP Go.Proofs.Ytpbbechgpgnpbaa.GoM

def l0 (a : (List Go.Proofs.Ytpbbechgpgnpbaa.PShade.Shade)) (b : (List Go.Proofs.Ytpbbechgpgnpbaa.PShade.Shade)) (k0 : Nat) (s : Unit) (nx0 bk0 : Unit → Option (Bool)) : Option (Bool) :=
  
  Option.bind (idx a (k0 : Int)) fun (yt_14 : Go.Proofs.Ytpbbechgpgnpbaa.PShade.Shade) =>
  unShade yt_14 fun (t_14_name : ByteArray) (t_14_hue : Int) (t_14_width : Int) (t_14_dark : Int) (t_14_light : Int) =>
  Option.bind (idx b (k0 : Int)) fun (yt_18 : Go.Proofs.Ytpbbechgpgnpbaa.PShade.Shade) =>
  unShade yt_18 fun (t_18_name : ByteArray) (t_18_hue : Int) (t_18_width : Int) (t_18_dark : Int) (t_18_light : Int) =>
  Option.bind (Go.Proofs.Ytpbbechgpgnpbaa.GlEqShade.P (Go.Proofs.Ytpbbechgpgnpbaa.PShade.Shade.mk t_14_name t_14_hue t_14_width t_14_dark t_14_light) (Go.Proofs.Ytpbbechgpgnpbaa.PShade.Shade.mk t_18_name t_18_hue t_18_width t_18_dark t_18_light)) fun (t_20 : Bool) =>
  letK (!t_20) fun (t_21 : Bool) =>
  iteK t_21
  (some false)
  (appK nx0 ())

def e0  (s : Unit) : Option (Bool) :=
  
  some true

def P (a : (List Go.Proofs.Ytpbbechgpgnpbaa.PShade.Shade)) (b : (List Go.Proofs.Ytpbbechgpgnpbaa.PShade.Shade)) : Option (Bool) :=
  letK ((a.length : Int) != (b.length : Int)) fun (t_5 : Bool) =>
  iteK t_5
  (some false)
  (cntK (l0 a b) (a.length) 0 () (e0 ))

set_option maxRecDepth 100000 in
set_option maxHeartbeats 2000000 in
theorem C (a : (List Go.Proofs.Ytpbbechgpgnpbaa.PShade.Shade)) (b : (List Go.Proofs.Ytpbbechgpgnpbaa.PShade.Shade)) (A0 : Option Addr) (c0 : Nat) (A1 : Option Addr) (c1 : Nat)  (w : World) (M0 : Hid (Cells w 5 A0 a.length (Go.Proofs.Ytpbbechgpgnpbaa.PShade.flat a))) (N0 : Hid (a.length ≤ 9223372036854775807)) (M1 : Hid (Cells w 5 A1 b.length (Go.Proofs.Ytpbbechgpgnpbaa.PShade.flat b))) (N1 : Hid (b.length ≤ 9223372036854775807))  {r : Bool} (H : Hid (P a b = some r)) :
    Calls Try.prog 23 #[.slice A0 a.length c0, .slice A1 b.length c1] w (Gives (.bool r) w) := by
  have HB := Lib.hid (Below.refl w.heap.size w)
  unfold P at H
  have N0o := N0.out
  have N1o := N1.out
  go_enter Try.func23, Try.ntmps23
  replace H := let_hid H
  obtain ⟨t_5, ht_5, H⟩ := H
  cases t_5 with
  | false =>
    have Hht_5 : Hid (a.length = b.length) := Lib.hid (by have := bne_eq_false_iff_eq.1 ht_5; omega)
    have nht_5 : (a.length == b.length) = true := beq_iff_eq.2 Hht_5.out
    replace H := ite_f H
    go_wp2_with fail
    go_loopg [5] (a.length) (fun m_ v5_ wr => ∃ (k0 : Nat) , k0 + m_ = a.length ∧ v5_ = .int .i64 (k0 : Int) ∧ Hid (cntK (l0 a b) m_ k0 () (e0 ) = some r) ∧ Hid (Below w.heap.size w wr))
    case atStart => exact ⟨0, by omega, rfl, H, HB⟩
    case round =>
      obtain ⟨k0, hkm0, rfl, H, HBwr0⟩ := hrel
      rename World => wr0
      cases gk with
      | zero =>
        obtain rfl : k0 = a.length := by omega
        have hc0 : decide (((a.length : Nat) : Int) < ((a.length : Nat) : Int)) = false := by simp
        replace H := cnt_zero H
        unfold e0 at H
        obtain rfl := ret_hid H
        go_wp2_with fail
        go_ret
        exact ⟨rfl, HBwr0.out⟩
      | succ m0 =>
        have hlt0 : k0 < a.length := by omega
        have hc0 : decide ((k0 : Int) < ((a.length : Nat) : Int)) = true := by simp; omega
        replace H := cnt_succ H
        unfold l0 at H
        go_wp2_with fail
        replace H := idx_hid H
        obtain ⟨nt_14, yt_14, et_14, lt_14, gt_14, H⟩ := H
        obtain rfl : k0 = nt_14 := by omega
        clear et_14
        obtain ⟨t_14_name, t_14_hue, t_14_width, t_14_dark, t_14_light⟩ := yt_14
        replace H := unShade_hid H
        obtain ⟨ab_t_14, ao_t_14, zt_14, At_14, z_t_14, ct_14_0, ct_14_1, ct_14_2, ct_14_3, ct_14_4⟩ := Go.Proofs.Ytpbbechgpgnpbaa.OShade.at_ M0.out lt_14
        obtain rfl := Option.some.inj (gt_14.out.symm.trans z_t_14)
        subst At_14
        have ltt_14 := cell_lt ct_14_0
        replace ct_14_0 := cell_below HBwr0.out ct_14_0
        replace ct_14_1 := cell_below HBwr0.out ct_14_1
        replace ct_14_2 := cell_below HBwr0.out ct_14_2
        replace ct_14_3 := cell_below HBwr0.out ct_14_3
        replace ct_14_4 := cell_below HBwr0.out ct_14_4
        clear z_t_14
        have b0t_14 : (0 : Int) ≤ (k0 : Int) := by omega
        have b1t_14 : (k0 : Int) < ((a.length : Nat) : Int) := by omega
        have b2t_14 : ((k0 : Int)).toNat = k0 := by omega
        have Hct_14_0 := Lib.hid ct_14_0
        replace ct_14_0 := cell_regrown ct_14_0
        have Hct_14_1 := Lib.hid ct_14_1
        replace ct_14_1 := cell_regrown ct_14_1
        have Hct_14_2 := Lib.hid ct_14_2
        replace ct_14_2 := cell_regrown ct_14_2
        have Hct_14_3 := Lib.hid ct_14_3
        replace ct_14_3 := cell_regrown ct_14_3
        have Hct_14_4 := Lib.hid ct_14_4
        replace ct_14_4 := cell_regrown ct_14_4
        replace H := idx_hid H
        obtain ⟨nt_18, yt_18, et_18, lt_18, gt_18, H⟩ := H
        obtain rfl : k0 = nt_18 := by omega
        clear et_18
        obtain ⟨t_18_name, t_18_hue, t_18_width, t_18_dark, t_18_light⟩ := yt_18
        replace H := unShade_hid H
        obtain ⟨ab_t_18, ao_t_18, zt_18, At_18, z_t_18, ct_18_0, ct_18_1, ct_18_2, ct_18_3, ct_18_4⟩ := Go.Proofs.Ytpbbechgpgnpbaa.OShade.at_ M1.out lt_18
        obtain rfl := Option.some.inj (gt_18.out.symm.trans z_t_18)
        subst At_18
        have ltt_18 := cell_lt ct_18_0
        replace ct_18_0 := cell_below HBwr0.out ct_18_0
        replace ct_18_1 := cell_below HBwr0.out ct_18_1
        replace ct_18_2 := cell_below HBwr0.out ct_18_2
        replace ct_18_3 := cell_below HBwr0.out ct_18_3
        replace ct_18_4 := cell_below HBwr0.out ct_18_4
        clear z_t_18
        have b0t_18 : (0 : Int) ≤ (k0 : Int) := by omega
        have b1t_18 : (k0 : Int) < ((b.length : Nat) : Int) := by omega
        have b2t_18 : ((k0 : Int)).toNat = k0 := by omega
        have Hct_18_0 := Lib.hid ct_18_0
        replace ct_18_0 := cell_regrown ct_18_0
        have Hct_18_1 := Lib.hid ct_18_1
        replace ct_18_1 := cell_regrown ct_18_1
        have Hct_18_2 := Lib.hid ct_18_2
        replace ct_18_2 := cell_regrown ct_18_2
        have Hct_18_3 := Lib.hid ct_18_3
        replace ct_18_3 := cell_regrown ct_18_3
        have Hct_18_4 := Lib.hid ct_18_4
        replace ct_18_4 := cell_regrown ct_18_4
        replace H := bind_hid H
        obtain ⟨t_20, qt_20, H⟩ := H
        have nt_20 : ∀ d os, Calls Try.prog 63 #[.agg #[.string t_14_name, .int .i64 t_14_hue, .int .i64 t_14_width, .int .i64 t_14_dark, .int .i64 t_14_light], .agg #[.string t_18_name, .int .i64 t_18_hue, .int .i64 t_18_width, .int .i64 t_18_dark, .int .i64 t_18_light]] (Go.Sort.grow (redrawn wr0 d) os) fun e w'' => e = .returned (.bool t_20) ∧ ∃ p : Regrown, w'' = Go.Sort.grow (redrawn wr0 p.d) p.os := fun d os => Calls.regrown_of (Go.Proofs.Ytpbbechgpgnpbaa.GlEqShade.C ((Go.Proofs.Ytpbbechgpgnpbaa.PShade.Shade.mk t_14_name t_14_hue t_14_width t_14_dark t_14_light)) ((Go.Proofs.Ytpbbechgpgnpbaa.PShade.Shade.mk t_18_name t_18_hue t_18_width t_18_dark t_18_light))  _    qt_20)
        cases t_20 with
        | false =>
          replace H := let_hid H
          obtain ⟨t_21, ht_21, H⟩ := H
          obtain rfl : t_21 = true := ht_21.symm
          refine wp_region_quiet_below (by kernel_rfl) (by kernel_rfl) ?_
          repeat (go_big_quiet_step (first | (go_at_call 63; exact nt_20 _ _)))
          refine wpQuiet_nil ?_
          intro Y6 hY6
          replace hY6 := below_class hY6
          clear nt_20
          replace ct_14_0 := Hct_14_0.out
          clear Hct_14_0
          replace ct_14_1 := Hct_14_1.out
          clear Hct_14_1
          replace ct_14_2 := Hct_14_2.out
          clear Hct_14_2
          replace ct_14_3 := Hct_14_3.out
          clear Hct_14_3
          replace ct_14_4 := Hct_14_4.out
          clear Hct_14_4
          replace ct_18_0 := Hct_18_0.out
          clear Hct_18_0
          replace ct_18_1 := Hct_18_1.out
          clear Hct_18_1
          replace ct_18_2 := Hct_18_2.out
          clear Hct_18_2
          replace ct_18_3 := Hct_18_3.out
          clear Hct_18_3
          replace ct_18_4 := Hct_18_4.out
          clear Hct_18_4
          have HBY6 := Lib.hid (Below.step HBwr0.out hY6)
          replace ct_14_0 := cell_below hY6 ct_14_0
          replace ct_14_1 := cell_below hY6 ct_14_1
          replace ct_14_2 := cell_below hY6 ct_14_2
          replace ct_14_3 := cell_below hY6 ct_14_3
          replace ct_14_4 := cell_below hY6 ct_14_4
          replace ct_18_0 := cell_below hY6 ct_18_0
          replace ct_18_1 := cell_below hY6 ct_18_1
          replace ct_18_2 := cell_below hY6 ct_18_2
          replace ct_18_3 := cell_below hY6 ct_18_3
          replace ct_18_4 := cell_below hY6 ct_18_4
          clear hY6
          replace H := ite_t H
          obtain rfl := ret_hid H
          go_wp2_with fail
          go_ret
          exact ⟨rfl, HBY6.out⟩
        | true =>
          replace H := let_hid H
          obtain ⟨t_21, ht_21, H⟩ := H
          obtain rfl : t_21 = false := ht_21.symm
          refine wp_region_quiet_below (by kernel_rfl) (by kernel_rfl) ?_
          repeat (go_big_quiet_step (first | (go_at_call 63; exact nt_20 _ _)))
          refine wpQuiet_nil ?_
          intro Y6 hY6
          replace hY6 := below_class hY6
          clear nt_20
          replace ct_14_0 := Hct_14_0.out
          clear Hct_14_0
          replace ct_14_1 := Hct_14_1.out
          clear Hct_14_1
          replace ct_14_2 := Hct_14_2.out
          clear Hct_14_2
          replace ct_14_3 := Hct_14_3.out
          clear Hct_14_3
          replace ct_14_4 := Hct_14_4.out
          clear Hct_14_4
          replace ct_18_0 := Hct_18_0.out
          clear Hct_18_0
          replace ct_18_1 := Hct_18_1.out
          clear Hct_18_1
          replace ct_18_2 := Hct_18_2.out
          clear Hct_18_2
          replace ct_18_3 := Hct_18_3.out
          clear Hct_18_3
          replace ct_18_4 := Hct_18_4.out
          clear Hct_18_4
          have HBY6 := Lib.hid (Below.step HBwr0.out hY6)
          replace ct_14_0 := cell_below hY6 ct_14_0
          replace ct_14_1 := cell_below hY6 ct_14_1
          replace ct_14_2 := cell_below hY6 ct_14_2
          replace ct_14_3 := cell_below hY6 ct_14_3
          replace ct_14_4 := cell_below hY6 ct_14_4
          replace ct_18_0 := cell_below hY6 ct_18_0
          replace ct_18_1 := cell_below hY6 ct_18_1
          replace ct_18_2 := cell_below hY6 ct_18_2
          replace ct_18_3 := cell_below hY6 ct_18_3
          replace ct_18_4 := cell_below hY6 ct_18_4
          clear hY6
          replace H := ite_f H
          replace H := app_hid H
          go_wp2_with fail
          go_roundg m0
          case measure => omega
          case rel => exact ⟨k0 + 1, by omega, by go_num, H, HBY6⟩
  | true =>
    have nht_5 : ¬ (a.length = b.length) := by have := bne_iff_ne.1 ht_5; omega
    replace H := ite_t H
    obtain rfl := ret_hid H
    go_wp2_with fail
    go_ret
    exact ⟨rfl, HB.out⟩
end Go.Proofs.Ytpbbechgpgnpbaa.GlEqShadeS

/- loop.example/g01062/laws.FnExactCertainHues as a plain function, and the contract of the program's: where the plain one has an answer, the program has it. Conditions: slices read as lists. -/
namespace Go.Proofs.Ytpbbechgpgnpbaa.GlFnExactCertainHues
set_option linter.unusedVariables false
set_option linter.unusedSimpArgs false
open Go.RowKit
open Go.Proofs.Ytpbbechgpgnpbaa.Rowed Go.Proofs.Ytpbbechgpgnpbaa.Turn Go.Proofs.Ytpbbechgpgnpbaa.Aid Go.Proofs.Ytpbbechgpgnpbaa.GoP Go.Proofs.Ytpbbechgpgnpbaa.GoM

def P (aList : (List Go.Proofs.Ytpbbechgpgnpbaa.PShade.Shade)) (aName : ByteArray) (aLight : Int) : Option (Bool) :=
  letK (decide (1048576 < (aName.size : Int))) fun (t_3 : Bool) =>
  iteK t_3
  (some true)
  (Option.bind (Go.Proofs.Ytpbbechgpgnpbaa.GlSzShadeS.P aList 1048576) fun (t_8 : Int) =>
  letK (decide (t_8 < 0)) fun (t_11 : Bool) =>
  iteK t_11
  (some true)
  (Option.bind (Go.Proofs.Ytpbbechgpgnpbaa.GlToShadeS.P aList) fun (t_14 : (List Go.Proofs.Ytpbbechgpgnpbaa.PShade.Shade)) =>
  bind2 (Go.Proofs.Ytpbbechgpgnpbaa.GsCertainHues.P t_14 aName aLight) fun (t_17a : Int) (t_17b : Bool) =>
  Option.bind (Go.Proofs.Ytpbbechgpgnpbaa.GlToShadeS.P aList) fun (t_24 : (List Go.Proofs.Ytpbbechgpgnpbaa.PShade.Shade)) =>
  bind2 (Go.Proofs.Ytpbbechgpgnpbaa.GiCertainHues.P t_24 aName aLight) fun (t_29a : Int) (t_29b : Bool) =>
  letK (t_29a != t_17a) fun (t_37 : Bool) =>
  joinK (fun (t_42 : Bool) =>
  iteK t_42
  (some false)
  (Option.bind (Go.Proofs.Ytpbbechgpgnpbaa.GlToShadeS.P aList) fun (t_46 : (List Go.Proofs.Ytpbbechgpgnpbaa.PShade.Shade)) =>
  Option.bind (Go.Proofs.Ytpbbechgpgnpbaa.GlEqShadeS.P t_24 t_46) fun (t_47 : Bool) =>
  letK (!t_47) fun (t_48 : Bool) =>
  iteK t_48
  (some false)
  (some true))) fun jt_42 => iteK t_37 (appK jt_42 true) (letK (!(t_29b == t_17b)) fun (t_41 : Bool) =>
  appK jt_42 t_41)))

set_option maxRecDepth 100000 in
set_option maxHeartbeats 2000000 in
theorem C (aList : (List Go.Proofs.Ytpbbechgpgnpbaa.PShade.Shade)) (aName : ByteArray) (aLight : Int) (A0 : Option Addr) (c0 : Nat)  (w : World) (M0 : Hid (Cells w 5 A0 aList.length (Go.Proofs.Ytpbbechgpgnpbaa.PShade.flat aList))) (N0 : Hid (aList.length ≤ 9223372036854775807))  {r : Bool} (H : Hid (P aList aName aLight = some r)) :
    Calls Try.prog 12 #[.slice A0 aList.length c0, .string aName, .int .i64 aLight] w (Gives (.bool r) w) := by
  have HB := Lib.hid (Below.refl w.heap.size w)
  unfold P at H
  have N0o := N0.out
  go_enter Try.func12, Try.ntmps12
  replace H := let_hid H
  obtain ⟨t_3, ht_3, H⟩ := H
  cases t_3 with
  | false =>
    have nht_3 : ¬ (1048576 < aName.size) := by have := of_decide_eq_false ht_3; omega
    replace H := ite_f H
    replace H := bind_hid H
    obtain ⟨t_8, qt_8, H⟩ := H
    go_wp2_with fail
    go_at_call 19
    refine (Go.Proofs.Ytpbbechgpgnpbaa.GlSzShadeS.C (aList) (1048576) A0 c0 _   (Lib.hid (Cells.below M0.out HB.out)) N0 qt_8).mono ?_
    rintro e_t_8 wt_8 ⟨rfl, bt_8⟩
    have HBwt_8 := Lib.hid (Below.step HB.out bt_8)
    clear bt_8
    replace H := let_hid H
    obtain ⟨t_11, ht_11, H⟩ := H
    cases t_11 with
    | false =>
      replace H := ite_f H
      replace H := bind_hid H
      obtain ⟨t_14, qt_14, H⟩ := H
      go_wp2_with fail
      go_at_call 21
      refine (Go.Proofs.Ytpbbechgpgnpbaa.GlToShadeS.C (aList) A0 c0 _   (Lib.hid (Cells.below M0.out HBwt_8.out)) N0 qt_14).mono ?_
      rintro e_t_14 wt_14 ⟨At_14, ct_14, rfl, ot_14, bt_14⟩
      have Ot_14 := Lib.hid (own_lower ot_14 HBwt_8.out.size)
      clear ot_14
      have HBwt_14 := Lib.hid (Below.step HBwt_8.out bt_14)
      clear bt_14
      replace H := bind2_hid H
      obtain ⟨t_17a, t_17b, qt_17, H⟩ := H
      go_wp2_with fail
      go_at_call 45
      refine (Go.Proofs.Ytpbbechgpgnpbaa.GsCertainHues.C (t_14) (aName) (aLight) At_14 ct_14 _   (Lib.hid (own_cells Ot_14.out)) (Lib.hid (own_max Ot_14.out)) qt_17).mono ?_
      rintro e_t_17 wt_17 ⟨rfl, bt_17⟩
      have HBwt_17 := Lib.hid (Below.step HBwt_14.out bt_17)
      replace Ot_14 := Lib.hid (own_below Ot_14.out bt_17)
      clear bt_17
      replace H := bind_hid H
      obtain ⟨t_24, qt_24, H⟩ := H
      go_wp2_with fail
      go_at_call 21
      refine (Go.Proofs.Ytpbbechgpgnpbaa.GlToShadeS.C (aList) A0 c0 _   (Lib.hid (Cells.below M0.out HBwt_17.out)) N0 qt_24).mono ?_
      rintro e_t_24 wt_24 ⟨At_24, ct_24, rfl, ot_24, bt_24⟩
      have Dt_24_t_14 := Lib.hid (apart_call ot_24 Ot_14.out)
      have Ot_24 := Lib.hid (own_lower ot_24 HBwt_17.out.size)
      clear ot_24
      have HBwt_24 := Lib.hid (Below.step HBwt_17.out bt_24)
      replace Ot_14 := Lib.hid (own_below Ot_14.out bt_24)
      clear bt_24
      replace H := bind2_hid H
      obtain ⟨t_29a, t_29b, qt_29, H⟩ := H
      go_wp2_with fail
      go_at_call 46
      refine (Go.Proofs.Ytpbbechgpgnpbaa.GiCertainHues.C (t_24) (aName) (aLight) At_24 ct_24 _   (Lib.hid (own_cells Ot_24.out)) (Lib.hid (own_max Ot_24.out)) (Lib.hid (own_room Ot_24.out)) qt_29).mono ?_
      rintro e_t_29 wt_29 ⟨rfl, bt_29⟩
      have HBwt_29 := Lib.hid (Below.step HBwt_24.out bt_29)
      replace Ot_14 := Lib.hid (own_below Ot_14.out bt_29)
      replace Ot_24 := Lib.hid (own_below Ot_24.out bt_29)
      clear bt_29
      replace H := let_hid H
      obtain ⟨t_37, ht_37, H⟩ := H
      replace H := join_hid H
      cases t_37 with
      | false =>
        replace H := ite_f H
        replace H := let_hid H
        obtain ⟨t_41, ht_41, H⟩ := H
        replace H := app_hid H
        cases t_41 with
        | false =>
          replace H := ite_f H
          replace H := bind_hid H
          obtain ⟨t_46, qt_46, H⟩ := H
          go_wp2_with fail
          go_at_call 21
          refine (Go.Proofs.Ytpbbechgpgnpbaa.GlToShadeS.C (aList) A0 c0 _   (Lib.hid (Cells.below M0.out HBwt_29.out)) N0 qt_46).mono ?_
          rintro e_t_46 wt_46 ⟨At_46, ct_46, rfl, ot_46, bt_46⟩
          have Dt_46_t_14 := Lib.hid (apart_call ot_46 Ot_14.out)
          have Dt_46_t_24 := Lib.hid (apart_call ot_46 Ot_24.out)
          have Ot_46 := Lib.hid (own_lower ot_46 HBwt_29.out.size)
          clear ot_46
          have HBwt_46 := Lib.hid (Below.step HBwt_29.out bt_46)
          replace Ot_14 := Lib.hid (own_below Ot_14.out bt_46)
          replace Ot_24 := Lib.hid (own_below Ot_24.out bt_46)
          clear bt_46
          replace H := bind_hid H
          obtain ⟨t_47, qt_47, H⟩ := H
          go_wp2_with fail
          go_at_call 23
          refine (Go.Proofs.Ytpbbechgpgnpbaa.GlEqShadeS.C (t_24) (t_46) At_24 ct_24 At_46 ct_46 _   (Lib.hid (own_cells Ot_24.out)) (Lib.hid (own_max Ot_24.out)) (Lib.hid (own_cells Ot_46.out)) (Lib.hid (own_max Ot_46.out)) qt_47).mono ?_
          rintro e_t_47 wt_47 ⟨rfl, bt_47⟩
          have HBwt_47 := Lib.hid (Below.step HBwt_46.out bt_47)
          replace Ot_14 := Lib.hid (own_below Ot_14.out bt_47)
          replace Ot_24 := Lib.hid (own_below Ot_24.out bt_47)
          replace Ot_46 := Lib.hid (own_below Ot_46.out bt_47)
          clear bt_47
          cases t_47 with
          | false =>
            replace H := let_hid H
            obtain ⟨t_48, ht_48, H⟩ := H
            obtain rfl : t_48 = true := ht_48.symm
            replace H := ite_t H
            obtain rfl := ret_hid H
            go_wp2_with fail
            go_ret
            exact ⟨rfl, HBwt_47.out⟩
          | true =>
            replace H := let_hid H
            obtain ⟨t_48, ht_48, H⟩ := H
            obtain rfl : t_48 = false := ht_48.symm
            replace H := ite_f H
            obtain rfl := ret_hid H
            go_wp2_with fail
            go_ret
            exact ⟨rfl, HBwt_47.out⟩
        | true =>
          replace H := ite_t H
          obtain rfl := ret_hid H
          go_wp2_with fail
          go_ret
          exact ⟨rfl, HBwt_29.out⟩
      | true =>
        replace H := ite_t H
        replace H := app_hid H
        replace H := ite_t H
        obtain rfl := ret_hid H
        go_wp2_with fail
        go_ret
        exact ⟨rfl, HBwt_29.out⟩
    | true =>
      replace H := ite_t H
      obtain rfl := ret_hid H
      go_wp2_with fail
      go_ret
      exact ⟨rfl, HBwt_8.out⟩
  | true =>
    have nht_3 : 1048576 < aName.size := by have := of_decide_eq_true ht_3; omega
    replace H := ite_t H
    obtain rfl := ret_hid H
    go_wp2_with fail
    go_ret
    exact ⟨rfl, HB.out⟩
end Go.Proofs.Ytpbbechgpgnpbaa.GlFnExactCertainHues

/- Plain words on stamps: what a stamp is, when one is valid, when a list of them is; the cells of a list of records. No condition. -/
namespace Go.Proofs.Ytpbbechgpgnpbaa.PlainStamp
set_option linter.unusedVariables false

/-- a number lies in a..b -/
def inB (x a b : Int) : Bool := decide (a ≤ x ∧ x ≤ b)
theorem inB_yes {x a b : Int} (h1 : a ≤ x) (h2 : x ≤ b) : inB x a b = true := by unfold inB; exact decide_eq_true ⟨h1, h2⟩
theorem inB_of {x a b : Int} (h : inB x a b = true) : a ≤ x ∧ x ≤ b := by unfold inB at h; exact of_decide_eq_true h
theorem inB_no {x a b : Int} (h : x < a ∨ b < x) : inB x a b = false := by unfold inB; exact decide_eq_false (by omega)

structure St where
  id : Int
  face : Int
  color : Int
  year : Int
deriving DecidableEq

def St.cells (s : St) : List Value := [.int .i64 s.id, .int .i64 s.face, .int .i64 s.color, .int .i64 s.year]
def St.val (s : St) : Value := .agg #[.int .i64 s.id, .int .i64 s.face, .int .i64 s.color, .int .i64 s.year]
/-- each field fits an int -/
def St.fits (s : St) : Prop := (Lit.int .i64 s.id).wf = true ∧ (Lit.int .i64 s.face).wf = true ∧ (Lit.int .i64 s.color).wf = true ∧ (Lit.int .i64 s.year).wf = true

def okSt (s : St) : Bool := inB s.id 1 999 && inB s.face 0 9999 && inB s.color 0 99 && inB s.year 1840 2100
theorem okSt_yes {s : St} (h : okSt s = true) : (1 ≤ s.id ∧ s.id ≤ 999) ∧ (0 ≤ s.face ∧ s.face ≤ 9999) ∧ (0 ≤ s.color ∧ s.color ≤ 99) ∧ (1840 ≤ s.year ∧ s.year ≤ 2100) := by
  unfold okSt at h
  simp only [Bool.and_eq_true] at h
  exact ⟨inB_of h.1.1.1, inB_of h.1.1.2, inB_of h.1.2, inB_of h.2⟩

/-- the stamp at k is valid, and its id is above the one ahead of it -/
def okAt (l : List St) (k : Nat) : Bool :=
  match l[k]? with
  | none => true
  | some s => okSt s && (decide (k = 0) || (match l[k-1]? with | none => true | some r => decide (r.id < s.id)))
def okUp (l : List St) (k : Nat) : Bool := (List.range k).all (okAt l)
theorem okUp_zero (l : List St) : okUp l 0 = true := by simp [okUp]
theorem okUp_succ (l : List St) (k : Nat) : okUp l (k + 1) = (okUp l k && okAt l k) := by simp [okUp, List.range_succ, List.all_append]
theorem okUp_not {l : List St} {k n : Nat} (h : okAt l k = false) (hk : k < n) : okUp l n = false := by
  unfold okUp
  rw [Bool.eq_false_iff]
  intro hall
  have := List.all_eq_true.1 hall k (List.mem_range.2 hk)
  rw [h] at this; exact absurd this (by simp)
/-- a list of at most twelve valid stamps with rising ids -/
def okSts (l : List St) : Bool := decide (l.length ≤ 12) && okUp l l.length
theorem okAt_of {l : List St} {k : Nat} {s : St} (hs : l[k]? = some s) (h : okAt l k = true) : okSt s = true ∧ ∀ r, 0 < k → l[k-1]? = some r → r.id < s.id := by
  unfold okAt at h
  rw [hs] at h
  simp only [Bool.and_eq_true, Bool.or_eq_true, decide_eq_true_eq] at h
  refine ⟨h.1, fun r hk hr => ?_⟩
  rcases h.2 with h0 | h0
  · omega
  · rw [hr] at h0; simpa using h0
theorem okSts_len {l : List St} (h : okSts l = true) : l.length ≤ 12 := by unfold okSts at h; simp only [Bool.and_eq_true, decide_eq_true_eq] at h; exact h.1
theorem okSts_at {l : List St} (h : okSts l = true) {k : Nat} {s : St} (hs : l[k]? = some s) : okSt s = true ∧ ∀ r, 0 < k → l[k-1]? = some r → r.id < s.id := by
  unfold okSts at h
  simp only [Bool.and_eq_true, decide_eq_true_eq] at h
  exact okAt_of hs (List.all_eq_true.1 h.2 k (List.mem_range.2 (List.getElem?_eq_some_iff.1 hs).1))
theorem okSts_mem {l : List St} (h : okSts l = true) {s : St} (hs : s ∈ l) : okSt s = true := by
  obtain ⟨k, hk⟩ := List.getElem?_of_mem hs
  exact (okSts_at h hk).1

/-- the cells of a list of stamps, one after the other -/
def flat (l : List St) : List Value := l.flatMap St.cells
theorem flat_nil : flat [] = [] := rfl
theorem flat_cons (s : St) (l : List St) : flat (s :: l) = s.cells ++ flat l := by simp [flat]
theorem flat_len (l : List St) : (flat l).length = l.length * 4 := by
  induction l with
  | nil => rfl
  | cons s l ih => rw [flat_cons, List.length_append, ih]; simp [St.cells]; omega
theorem flat_at : ∀ (l : List St) (k : Nat) (s : St), l[k]? = some s → ∀ j, j < 4 → (flat l)[k * 4 + j]? = s.cells[j]?
  | [], k, s, h, _, _ => by simp at h
  | r :: l, 0, s, h, j, hj => by
    obtain rfl : r = s := by simpa using h
    rw [flat_cons, List.getElem?_append_left (by simp [St.cells]; omega)]; simp
  | r :: l, k + 1, s, h, j, hj => by
    rw [flat_cons, List.getElem?_append_right (by simp [St.cells]; omega), show (k + 1) * 4 + j - r.cells.length = k * 4 + j by simp [St.cells]; omega]
    exact flat_at l k s (by simpa using h) j hj
end Go.Proofs.Ytpbbechgpgnpbaa.PlainStamp

/- Words for reckoning with plain functions; within and l1In. No condition. -/
namespace Go.Proofs.Ytpbbechgpgnpbaa.QBase
set_option linter.unusedVariables false
set_option linter.unusedSimpArgs false
open Go.RowKit
open Go.Proofs.Ytpbbechgpgnpbaa.GoP Go.Proofs.Ytpbbechgpgnpbaa.PlainStamp

theorem iteK_if {ρ : Type} (c : Bool) (a b : Option ρ) : iteK c a b = if c = true then a else b := by cases c <;> rfl
theorem bind2_some {α β ρ : Type} (a : α) (b : β) (f : α → β → Option ρ) : bind2 (some (a, b)) f = f a b := rfl
theorem bind3_some {α β γ ρ : Type} (a : α) (b : β) (c : γ) (f : α → β → γ → Option ρ) : bind3 (some (a, b, c)) f = f a b c := rfl
theorem unp2_mk {α β ρ : Type} (a : α) (b : β) (f : α → β → Option ρ) : unp2 (a, b) f = f a b := rfl
theorem unp3_mk {α β γ ρ : Type} (a : α) (b : β) (c : γ) (f : α → β → γ → Option ρ) : unp3 (a, b, c) f = f a b c := rfl
theorem guardK_pos {ρ : Type} {p : Prop} [Decidable p] {a : Option ρ} (h : p) : guardK p a = a := if_pos h
theorem cut2 {α β : Type} {x : Option (α × β)} {p : α × β} (h : x = some p) : x = some (p.1, p.2) := h
theorem cut3 {α β γ : Type} {x : Option (α × β × γ)} {p : α × β × γ} (h : x = some p) : x = some (p.1, p.2.1, p.2.2) := h
theorem within_eq (n a b : Int) : GiWithin.P n a b = some (inB n a b) := by
  simp only [GiWithin.P, letK, joinK, appK, iteK_if, inB]
  by_cases h1 : a ≤ n <;> by_cases h2 : n ≤ b <;> simp [h1, h2]
theorem l1In_eq (n a b : Int) : GsL1In.P n a b = some (inB n a b) := by
  simp only [GsL1In.P, letK, joinK, appK, iteK_if, inB]
  by_cases h1 : a ≤ n <;> by_cases h2 : n ≤ b <;> simp [h1, h2]
end Go.Proofs.Ytpbbechgpgnpbaa.QBase

/- Reckoning with the loops of plain functions; lists of valid records with rising ids. No condition. -/
namespace Go.Proofs.Ytpbbechgpgnpbaa.QLoop
set_option linter.unusedVariables false
open Go.RowKit
open Go.Proofs.Ytpbbechgpgnpbaa.GoP Go.Proofs.Ytpbbechgpgnpbaa.QBase

theorem cnt_ex {σ ρ : Type} {f : Nat → σ → (σ → Option ρ) → (σ → Option ρ) → Option ρ} {fin : σ → Option ρ} {Q : ρ → Prop} {n : Nat} (I : Nat → σ → Prop)
    (step : ∀ k s nx, k < n → I k s → (∀ s', I (k + 1) s' → ∃ r, nx s' = some r ∧ Q r) → ∃ r, f k s nx fin = some r ∧ Q r) (done : ∀ s, I n s → ∃ r, fin s = some r ∧ Q r) :
    ∀ m k s, k + m = n → I k s → ∃ r, cntK f m k s fin = some r ∧ Q r := by
  intro m
  induction m with
  | zero => intro k s hk hI; obtain rfl : k = n := by omega
            exact done s hI
  | succ m ih => intro k s hk hI; exact step k s _ (by omega) hI (fun s' h' => ih (k + 1) s' (by omega) h')
theorem cnt_is {σ ρ : Type} {f : Nat → σ → (σ → Option ρ) → (σ → Option ρ) → Option ρ} {fin : σ → Option ρ} {n : Nat} (r : ρ) (I : Nat → σ → Prop)
    (step : ∀ k s nx, k < n → I k s → (∀ s', I (k + 1) s' → nx s' = some r) → f k s nx fin = some r) (done : ∀ s, I n s → fin s = some r) (s : σ) (h0 : I 0 s) : cntK f n 0 s fin = some r := by
  obtain ⟨r', h, rfl⟩ := cnt_ex (Q := fun x => x = r) I (fun k s nx hk hI hn => ⟨r, step k s nx hk hI (fun s' h' => by obtain ⟨_, h, rfl⟩ := hn s' h'; exact h), rfl⟩) (fun s h => ⟨r, done s h, rfl⟩) n 0 s (by omega) h0
  exact h
theorem at_lt {α : Type} {l : List α} {k : Nat} (h : k < l.length) : ∃ x, l[k]? = some x ∧ idx l (k : Int) = some x := ⟨l[k], List.getElem?_eq_getElem h, by rw [idx_nat, List.getElem?_eq_getElem h]⟩
theorem idx_pred {α : Type} {l : List α} {k : Nat} {x : α} (hk : 0 < k) (hb : k ≤ 9223372036854775807) (h : l[k - 1]? = some x) : idx l (IntKind.i64.wrap ((k : Int) - 1)) = some x := by
  rw [IntWalk.i64_in _ (by omega), show ((k : Int) - 1) = ((k - 1 : Nat) : Int) by omega, idx_nat, h]
theorem take_next {α : Type} {l : List α} {k : Nat} {x : α} (h : l[k]? = some x) : l.take (k + 1) = l.take k ++ [x] := by
  obtain ⟨hk, e⟩ := List.getElem?_eq_some_iff.1 h
  rw [List.take_succ_eq_append_getElem hk, e]
theorem all_next {α : Type} {p : α → Bool} {l : List α} {k : Nat} {x : α} (h : l[k]? = some x) : (l.take (k + 1)).all p = ((l.take k).all p && p x) := by
  rw [take_next h]; simp
theorem not_all {α : Type} {p : α → Bool} {l : List α} {k : Nat} {x : α} (h : l[k]? = some x) (hp : p x = false) : l.all p = false := by
  rw [Bool.eq_false_iff]
  intro ha
  have := List.all_eq_true.1 ha x (List.mem_of_getElem? h)
  rw [hp] at this; exact absurd this (by simp)
theorem wrap_in {x : Int} (h1 : -9223372036854775808 ≤ x) (h2 : x ≤ 9223372036854775807) : IntKind.i64.wrap x = x := IntWalk.i64_in _ (by omega)

/-- valid, and above the one ahead of it -/
def upAt {α : Type} (ok : α → Bool) (id : α → Int) (l : List α) (k : Nat) : Bool :=
  match l[k]? with
  | none => true
  | some s => ok s && (decide (k = 0) || (match l[k-1]? with | none => true | some r => decide (id r < id s)))
def upTo {α : Type} (ok : α → Bool) (id : α → Int) (l : List α) (k : Nat) : Bool := (List.range k).all (upAt ok id l)
theorem upTo_zero {α : Type} (ok : α → Bool) (id : α → Int) (l : List α) : upTo ok id l 0 = true := rfl
theorem upTo_succ {α : Type} (ok : α → Bool) (id : α → Int) (l : List α) (k : Nat) : upTo ok id l (k + 1) = (upTo ok id l k && upAt ok id l k) := by simp [upTo, List.range_succ, List.all_append]
theorem upTo_not {α : Type} {ok : α → Bool} {id : α → Int} {l : List α} {k n : Nat} (h : upAt ok id l k = false) (hk : k < n) : upTo ok id l n = false := by
  unfold upTo
  rw [Bool.eq_false_iff]
  intro ha
  have := List.all_eq_true.1 ha k (List.mem_range.2 hk)
  rw [h] at this; exact absurd this (by simp)
/-- a list of at most m valid records with rising ids -/
def upL {α : Type} (m : Nat) (ok : α → Bool) (id : α → Int) (l : List α) : Bool := decide (l.length ≤ m) && upTo ok id l l.length
theorem upAt_bad {α : Type} {ok : α → Bool} {id : α → Int} {l : List α} {k : Nat} {s : α} (hs : l[k]? = some s) (h : ok s = false) : upAt ok id l k = false := by unfold upAt; rw [hs]; simp [h]
theorem upAt_first {α : Type} {ok : α → Bool} {id : α → Int} {l : List α} {s : α} (hs : l[0]? = some s) (h : ok s = true) : upAt ok id l 0 = true := by unfold upAt; rw [hs]; simp [h]
theorem upAt_next {α : Type} {ok : α → Bool} {id : α → Int} {l : List α} {k : Nat} {s r : α} (hs : l[k]? = some s) (hr : l[k-1]? = some r) (hk : 0 < k) (h : ok s = true) : upAt ok id l k = decide (id r < id s) := by
  unfold upAt; rw [hs]; simp only [hr, h, Bool.true_and, decide_eq_false (show ¬ k = 0 by omega), Bool.false_or]
theorem upL_len {α : Type} {m : Nat} {ok : α → Bool} {id : α → Int} {l : List α} (h : upL m ok id l = true) : l.length ≤ m := by unfold upL at h; simp only [Bool.and_eq_true, decide_eq_true_eq] at h; exact h.1
theorem upL_ok {α : Type} {m : Nat} {ok : α → Bool} {id : α → Int} {l : List α} (h : upL m ok id l = true) {k : Nat} {s : α} (hs : l[k]? = some s) : ok s = true := by
  unfold upL at h
  simp only [Bool.and_eq_true, decide_eq_true_eq] at h
  have := List.all_eq_true.1 h.2 k (List.mem_range.2 (List.getElem?_eq_some_iff.1 hs).1)
  unfold upAt at this
  rw [hs] at this
  simp only [Bool.and_eq_true] at this
  exact this.1
theorem upL_mem {α : Type} {m : Nat} {ok : α → Bool} {id : α → Int} {l : List α} (h : upL m ok id l = true) {s : α} (hs : s ∈ l) : ok s = true := by
  obtain ⟨k, hk⟩ := List.getElem?_of_mem hs
  exact upL_ok h hk
/-- a loop that goes through a list of records and stops with 'false' at the first that is bad -/
theorem up_loop {α : Type} {ok : α → Bool} {id : α → Int} {l : List α} {R : Type} {no : R} {f : Nat → Unit → (Unit → Option R) → (Unit → Option R) → Option R} {fin : Unit → Option R}
    (step : ∀ k nx s, l[k]? = some s → (ok s = false → f k () nx fin = some no) ∧ (ok s = true → (k = 0 → f k () nx fin = nx ()) ∧ (0 < k → ∀ r, l[k-1]? = some r → (id r < id s → f k () nx fin = nx ()) ∧ (id s ≤ id r → f k () nx fin = some no)))) :
    cntK f l.length 0 () fin = if upTo ok id l l.length then fin () else some no := by
  have key : ∀ m k, k + m = l.length → upTo ok id l k = true → cntK f m k () fin = if upTo ok id l l.length then fin () else some no := by
    intro m
    induction m with
    | zero => intro k hk hu; obtain rfl : k = l.length := by omega
              rw [hu]; rfl
    | succ m ih =>
      intro k hk hu
      have hlt : k < l.length := by omega
      obtain ⟨s, hs, _⟩ := at_lt hlt
      obtain ⟨h1, h2⟩ := step k (fun s' => cntK f m (k + 1) s' fin) s hs
      show f k () _ fin = _
      cases hok : ok s with
      | false => rw [h1 hok, upTo_not (upAt_bad hs hok) hlt]; rfl
      | true =>
        obtain ⟨h3, h4⟩ := h2 hok
        by_cases hk0 : k = 0
        · rw [h3 hk0]
          subst hk0
          exact ih 1 (by omega) (by rw [upTo_succ, hu, upAt_first hs hok]; rfl)
        · obtain ⟨r, hr, _⟩ := at_lt (l := l) (k := k - 1) (by omega)
          obtain ⟨h5, h6⟩ := h4 (by omega) r hr
          by_cases hlt2 : id r < id s
          · rw [h5 hlt2]
            exact ih (k + 1) (by omega) (by rw [upTo_succ, hu, upAt_next hs hr (by omega) hok]; simpa using hlt2)
          · rw [h6 (by omega), upTo_not (by rw [upAt_next hs hr (by omega) hok]; simpa using hlt2) hlt]; rfl
  exact key l.length 0 (by omega) (upTo_zero ok id l)
end Go.Proofs.Ytpbbechgpgnpbaa.QLoop

/- Lists of valid records in strictly rising order of any kind; texts in the order of their bytes. (QOrd) No condition but those of each theorem. -/
namespace Go.Proofs.Ytpbbechgpgnpbaa.QOrd
set_option linter.unusedVariables false
set_option linter.unusedSimpArgs false
open Go.RowKit
open Go.Proofs.Ytpbbechgpgnpbaa.GoP Go.Proofs.Ytpbbechgpgnpbaa.PlainStamp Go.Proofs.Ytpbbechgpgnpbaa.QBase Go.Proofs.Ytpbbechgpgnpbaa.QLoop

/-- texts in the order of their bytes -/
def bl (a b : ByteArray) : Bool := Op.bytesLess a.toList b.toList
theorem bl_self' : ∀ x, Op.bytesLess x x = false
  | [] => rfl
  | a :: x => by
    have h1 : ¬ a < a := fun k => by rw [UInt8.lt_iff_toNat_lt] at k; omega
    simp [Op.bytesLess, h1, bl_self' x]
theorem bl_total' : ∀ x y, x ≠ y → Op.bytesLess x y = !(Op.bytesLess y x)
  | [], [], h => absurd rfl h
  | [], b :: y, _ => by simp [Op.bytesLess]
  | a :: x, [], _ => by simp [Op.bytesLess]
  | a :: x, b :: y, h => by
    by_cases hab : a = b
    · subst hab
      have h1 : ¬ a < a := fun k => by rw [UInt8.lt_iff_toNat_lt] at k; omega
      have := bl_total' x y (fun e => h (by rw [e]))
      simp [Op.bytesLess, h1, this]
    · have hne : a.toNat ≠ b.toNat := fun e => hab (UInt8.toNat_inj.1 e)
      by_cases hlt : a < b
      · have h2 : ¬ b < a := fun k => by rw [UInt8.lt_iff_toNat_lt] at k hlt; omega
        simp [Op.bytesLess, hlt, h2, Ne.symm hab]
      · have h2 : b < a := by rw [UInt8.lt_iff_toNat_lt] at hlt ⊢; omega
        simp [Op.bytesLess, hlt, h2, hab]
theorem bl_trans' : ∀ x y z, Op.bytesLess x y = true → Op.bytesLess y z = true → Op.bytesLess x z = true
  | [], _, [], h1, h2 => by rename_i y; cases y <;> simp [Op.bytesLess] at h1 h2
  | [], _, c :: z, _, _ => by simp [Op.bytesLess]
  | a :: x, [], _, h1, _ => by simp [Op.bytesLess] at h1
  | a :: x, b :: y, [], _, h2 => by simp [Op.bytesLess] at h2
  | a :: x, b :: y, c :: z, h1, h2 => by
    simp only [Op.bytesLess, Bool.or_eq_true, decide_eq_true_eq, Bool.and_eq_true, beq_iff_eq] at h1 h2 ⊢
    rcases h1 with h1 | ⟨rfl, h1⟩
    · rcases h2 with h2 | ⟨rfl, h2⟩
      · left; rw [UInt8.lt_iff_toNat_lt] at h1 h2 ⊢; omega
      · left; exact h1
    · rcases h2 with h2 | ⟨rfl, h2⟩
      · left; exact h2
      · right; exact ⟨rfl, bl_trans' x y z h1 h2⟩
theorem list_inj {a b : ByteArray} (h : a.toList = b.toList) : a = b := by
  rw [Lib.toList_data, Lib.toList_data] at h
  cases a; cases b; congr 1; exact Array.toList_inj.1 h
theorem bl_self (a : ByteArray) : bl a a = false := bl_self' _
theorem bl_total {a b : ByteArray} (h : a ≠ b) : bl a b = !(bl b a) := bl_total' _ _ (fun e => h (list_inj e))
theorem bl_trans {a b c : ByteArray} (h1 : bl a b = true) (h2 : bl b c = true) : bl a c = true := bl_trans' _ _ _ h1 h2
theorem bl_asymm {a b : ByteArray} (h : bl a b = true) : bl b a = false := by
  by_cases e : a = b
  · rw [e]; exact bl_self b
  · rw [bl_total e] at h; simpa using h
theorem bl_ne {a b : ByteArray} (h : bl a b = true) : a ≠ b := fun e => by rw [e, bl_self] at h; exact absurd h (by simp)
/-- 'not above', as the program asks it -/
theorem bl_le (a b : ByteArray) : (Op.bytesLess a.toList b.toList || a.toList == b.toList) = !(bl b a) := by
  by_cases e : a = b
  · subst e; rw [bl_self]; simp
  · have h1 : (a.toList == b.toList) = false := by rw [beq_eq_false_iff_ne]; exact fun h => e (list_inj h)
    rw [h1, Bool.or_false]; exact bl_total e
theorem bl_lt (a b : ByteArray) : Op.bytesLess a.toList b.toList = bl a b := rfl
theorem eq_list (a b : ByteArray) : (a.toList == b.toList) = decide (a = b) := by
  by_cases e : a = b
  · subst e; simp
  · rw [decide_eq_false e, beq_eq_false_iff_ne]; exact fun h => e (list_inj h)

/-- valid, and behind the one ahead of it -/
def riseAt {α : Type} (ok : α → Bool) (lt : α → α → Bool) (l : List α) (k : Nat) : Bool :=
  match l[k]? with
  | none => true
  | some s => ok s && (decide (k = 0) || (match l[k-1]? with | none => true | some r => lt r s))
def riseTo {α : Type} (ok : α → Bool) (lt : α → α → Bool) (l : List α) (k : Nat) : Bool := (List.range k).all (riseAt ok lt l)
theorem riseTo_zero {α : Type} (ok : α → Bool) (lt : α → α → Bool) (l : List α) : riseTo ok lt l 0 = true := rfl
theorem riseTo_succ {α : Type} (ok : α → Bool) (lt : α → α → Bool) (l : List α) (k : Nat) : riseTo ok lt l (k + 1) = (riseTo ok lt l k && riseAt ok lt l k) := by simp [riseTo, List.range_succ, List.all_append]
theorem riseTo_not {α : Type} {ok : α → Bool} {lt : α → α → Bool} {l : List α} {k n : Nat} (h : riseAt ok lt l k = false) (hk : k < n) : riseTo ok lt l n = false := by
  unfold riseTo
  rw [Bool.eq_false_iff]
  intro ha
  have := List.all_eq_true.1 ha k (List.mem_range.2 hk)
  rw [h] at this; exact absurd this (by simp)
def riseL {α : Type} (m : Nat) (ok : α → Bool) (lt : α → α → Bool) (l : List α) : Bool := decide (l.length ≤ m) && riseTo ok lt l l.length
theorem riseAt_bad {α : Type} {ok : α → Bool} {lt : α → α → Bool} {l : List α} {k : Nat} {s : α} (hs : l[k]? = some s) (h : ok s = false) : riseAt ok lt l k = false := by unfold riseAt; rw [hs]; simp [h]
theorem riseAt_first {α : Type} {ok : α → Bool} {lt : α → α → Bool} {l : List α} {s : α} (hs : l[0]? = some s) (h : ok s = true) : riseAt ok lt l 0 = true := by unfold riseAt; rw [hs]; simp [h]
theorem riseAt_next {α : Type} {ok : α → Bool} {lt : α → α → Bool} {l : List α} {k : Nat} {s r : α} (hs : l[k]? = some s) (hr : l[k-1]? = some r) (hk : 0 < k) (h : ok s = true) : riseAt ok lt l k = lt r s := by
  unfold riseAt; rw [hs]; simp only [hr, h, Bool.true_and, decide_eq_false (show ¬ k = 0 by omega), Bool.false_or]
theorem riseL_len {α : Type} {m : Nat} {ok : α → Bool} {lt : α → α → Bool} {l : List α} (h : riseL m ok lt l = true) : l.length ≤ m := by unfold riseL at h; simp only [Bool.and_eq_true, decide_eq_true_eq] at h; exact h.1
theorem riseTo_at {α : Type} {ok : α → Bool} {lt : α → α → Bool} {l : List α} {n : Nat} (h : riseTo ok lt l n = true) {k : Nat} (hk : k < n) : riseAt ok lt l k = true := List.all_eq_true.1 h k (List.mem_range.2 hk)
theorem riseL_ok {α : Type} {m : Nat} {ok : α → Bool} {lt : α → α → Bool} {l : List α} (h : riseL m ok lt l = true) {k : Nat} {s : α} (hs : l[k]? = some s) : ok s = true := by
  unfold riseL at h
  simp only [Bool.and_eq_true, decide_eq_true_eq] at h
  have := riseTo_at h.2 (List.getElem?_eq_some_iff.1 hs).1
  unfold riseAt at this
  rw [hs] at this
  simp only [Bool.and_eq_true] at this
  exact this.1
theorem riseL_mem {α : Type} {m : Nat} {ok : α → Bool} {lt : α → α → Bool} {l : List α} (h : riseL m ok lt l = true) {s : α} (hs : s ∈ l) : ok s = true := by
  obtain ⟨k, hk⟩ := List.getElem?_of_mem hs
  exact riseL_ok h hk
theorem riseL_step {α : Type} {m : Nat} {ok : α → Bool} {lt : α → α → Bool} {l : List α} (h : riseL m ok lt l = true) {k : Nat} {x y : α} (hx : l[k]? = some x) (hy : l[k + 1]? = some y) : lt x y = true := by
  unfold riseL at h
  simp only [Bool.and_eq_true, decide_eq_true_eq] at h
  have := riseTo_at h.2 (List.getElem?_eq_some_iff.1 hy).1
  unfold riseAt at this
  rw [hy] at this
  simp only [Nat.add_sub_cancel, hx, Bool.and_eq_true, Bool.or_eq_true, decide_eq_true_eq] at this
  rcases this.2 with h0 | h0
  · omega
  · exact h0
theorem riseL_lt {α : Type} {m : Nat} {ok : α → Bool} {lt : α → α → Bool} (tr : ∀ a b c, lt a b = true → lt b c = true → lt a c = true) {l : List α} (h : riseL m ok lt l = true) {i j : Nat} {x y : α} (hij : i < j) (hx : l[i]? = some x) (hy : l[j]? = some y) : lt x y = true := by
  obtain ⟨d, rfl⟩ : ∃ d, j = i + d + 1 := ⟨j - i - 1, by omega⟩
  clear hij
  induction d generalizing y with
  | zero => exact riseL_step h hx hy
  | succ d ih =>
    obtain ⟨z, hz, _⟩ := at_lt (l := l) (k := i + d + 1) (by have := (List.getElem?_eq_some_iff.1 hy).1; omega)
    exact tr _ _ _ (ih hz) (riseL_step (k := i + d + 1) h hz (by rw [← hy]; rfl))
/-- a loop that goes through a list of records and stops with 'no' at the first that is bad -/
theorem rise_loop {α : Type} {ok : α → Bool} {lt : α → α → Bool} {l : List α} {R : Type} {no : R} {f : Nat → Unit → (Unit → Option R) → (Unit → Option R) → Option R} {fin : Unit → Option R}
    (step : ∀ k nx s, l[k]? = some s → (ok s = false → f k () nx fin = some no) ∧ (ok s = true → (k = 0 → f k () nx fin = nx ()) ∧ (0 < k → ∀ r, l[k-1]? = some r → (lt r s = true → f k () nx fin = nx ()) ∧ (lt r s = false → f k () nx fin = some no)))) :
    cntK f l.length 0 () fin = if riseTo ok lt l l.length then fin () else some no := by
  have key : ∀ m k, k + m = l.length → riseTo ok lt l k = true → cntK f m k () fin = if riseTo ok lt l l.length then fin () else some no := by
    intro m
    induction m with
    | zero => intro k hk hu; obtain rfl : k = l.length := by omega
              rw [hu]; rfl
    | succ m ih =>
      intro k hk hu
      have hlt : k < l.length := by omega
      obtain ⟨s, hs, _⟩ := at_lt hlt
      obtain ⟨h1, h2⟩ := step k (fun s' => cntK f m (k + 1) s' fin) s hs
      show f k () _ fin = _
      cases hok : ok s with
      | false => rw [h1 hok, riseTo_not (riseAt_bad hs hok) hlt]; rfl
      | true =>
        obtain ⟨h3, h4⟩ := h2 hok
        by_cases hk0 : k = 0
        · rw [h3 hk0]
          subst hk0
          exact ih 1 (by omega) (by rw [riseTo_succ, hu, riseAt_first hs hok]; rfl)
        · obtain ⟨r, hr, _⟩ := at_lt (l := l) (k := k - 1) (by omega)
          obtain ⟨h5, h6⟩ := h4 (by omega) r hr
          cases hl : lt r s with
          | true =>
            rw [h5 hl]
            exact ih (k + 1) (by omega) (by rw [riseTo_succ, hu, riseAt_next hs hr (by omega) hok, hl]; rfl)
          | false => rw [h6 hl, riseTo_not (by rw [riseAt_next hs hr (by omega) hok, hl]) hlt]; rfl
  exact key l.length 0 (by omega) (riseTo_zero ok lt l)
end Go.Proofs.Ytpbbechgpgnpbaa.QOrd

/- Loops that count, that search, and that gather behind what is there already: the plain loops' answers. (QCount) No condition but those of each theorem. -/
namespace Go.Proofs.Ytpbbechgpgnpbaa.QCount
set_option linter.unusedVariables false
set_option linter.unusedSimpArgs false
open Go.RowKit
open Go.Proofs.Ytpbbechgpgnpbaa.GoP Go.Proofs.Ytpbbechgpgnpbaa.PlainStamp Go.Proofs.Ytpbbechgpgnpbaa.QBase Go.Proofs.Ytpbbechgpgnpbaa.QLoop

theorem count_list {α R : Type} {l : List α} {p : α → Bool} {f : Nat → Int → (Int → Option R) → (Int → Option R) → Option R} {fin : Int → Option R}
    (step : ∀ k nx x (s : Nat), l[k]? = some x → s ≤ k → f k (s : Int) nx fin = nx ((if p x = true then s + 1 else s : Nat) : Int)) : cntK f l.length 0 0 fin = fin ((l.filter p).length : Int) := by
  have key : ∀ m k, k + m = l.length → cntK f m k (((l.take k).filter p).length : Int) fin = fin ((l.filter p).length : Int) := by
    intro m
    induction m with
    | zero => intro k hk; obtain rfl : k = l.length := by omega
              rw [List.take_of_length_le (Nat.le_refl _)]; rfl
    | succ m ih =>
      intro k hk
      obtain ⟨x, hx, _⟩ := at_lt (l := l) (k := k) (by omega)
      show f k _ _ fin = _
      have hle : ((l.take k).filter p).length ≤ k := by
        have := List.length_filter_le p (l.take k)
        rw [List.length_take] at this
        omega
      rw [step k _ x _ hx hle, ← ih (k + 1) (by omega), take_next hx, List.filter_append, List.length_append]
      cases hp : p x <;> simp [List.filter, hp]
  exact key l.length 0 (by omega)
theorem count_up {R : Type} {n : Nat} {p : Nat → Bool} {f : Nat → Int → (Int → Option R) → (Int → Option R) → Option R} {fin : Int → Option R}
    (step : ∀ k nx (s : Nat), k < n → s ≤ k → f k (s : Int) nx fin = nx ((if p k = true then s + 1 else s : Nat) : Int)) : cntK f n 0 0 fin = fin (((List.range n).filter p).length : Int) := by
  have h := count_list (l := List.range n) (p := p) (f := f) (fin := fin) (fun k nx x s hx hs => by
    obtain ⟨hk, rfl⟩ := List.getElem?_eq_some_iff.1 hx
    rw [List.length_range] at hk
    rw [List.getElem_range]
    exact step k nx s hk hs)
  rw [List.length_range] at h
  exact h
theorem filter_zero {α : Type} (l : List α) (p : α → Bool) : (((l.filter p).length : Int) == 0) = !(l.any p) := by
  rw [Bool.eq_iff_iff]
  simp only [beq_iff_eq, Bool.not_eq_true', List.any_eq_false]
  constructor
  · intro h x hx hp
    have : x ∈ l.filter p := List.mem_filter.2 ⟨hx, hp⟩
    have := List.length_pos_of_mem this
    omega
  · intro h
    have : l.filter p = [] := List.filter_eq_nil_iff.2 h
    rw [this]; rfl
/-- the first place at which the test holds -/
def firstI {α : Type} (p : α → Bool) (l : List α) : Int := match l.findIdx? p with | some i => (i : Int) | none => -1
theorem find_loop {α R : Type} {l : List α} {p : α → Bool} {f : Nat → Unit → (Unit → Option R) → (Unit → Option R) → Option R} {fin : Unit → Option R} {yes : Nat → Option R}
    (step : ∀ k nx x, l[k]? = some x → f k () nx fin = if p x = true then yes k else nx ()) : cntK f l.length 0 () fin = match l.findIdx? p with | some i => yes i | none => fin () := by
  have key : ∀ m k, k + m = l.length → (∀ i x, i < k → l[i]? = some x → p x = false) → cntK f m k () fin = match l.findIdx? p with | some i => yes i | none => fin () := by
    intro m
    induction m with
    | zero =>
      intro k hk hu; obtain rfl : k = l.length := by omega
      have : l.findIdx? p = none := by
        rw [List.findIdx?_eq_none_iff]
        intro x hx
        obtain ⟨i, hi⟩ := List.getElem?_of_mem hx
        exact hu i x (List.getElem?_eq_some_iff.1 hi).1 hi
      rw [this]; rfl
    | succ m ih =>
      intro k hk hu
      obtain ⟨x, hx, _⟩ := at_lt (l := l) (k := k) (by omega)
      show f k () _ fin = _
      rw [step k _ x hx]
      cases hp : p x with
      | true =>
        have : l.findIdx? p = some k := by
          rw [List.findIdx?_eq_some_iff_getElem]
          obtain ⟨hlt, e⟩ := List.getElem?_eq_some_iff.1 hx
          refine ⟨hlt, by rw [e]; exact hp, fun j hj => ?_⟩
          rw [hu j l[j] hj (List.getElem?_eq_getElem (by omega))]; simp
        rw [this, if_pos rfl]
      | false =>
        rw [if_neg (by simp)]
        refine ih (k + 1) (by omega) (fun i y hi hy => ?_)
        by_cases he : i = k
        · subst he; rw [hx] at hy; obtain rfl := Option.some.inj hy; exact hp
        · exact hu i y (by omega) hy
  exact key l.length 0 (by omega) (fun i x hi _ => by omega)
theorem any_find {α : Type} (p : α → Bool) (l : List α) : decide (0 ≤ firstI p l) = l.any p := by
  unfold firstI
  cases h : l.findIdx? p with
  | none =>
    rw [List.findIdx?_eq_none_iff] at h
    have : l.any p = false := by rw [List.any_eq_false]; intro x hx; rw [h x hx]; simp
    rw [this]; rfl
  | some i =>
    rw [List.findIdx?_eq_some_iff_getElem] at h
    obtain ⟨hi, hp, _⟩ := h
    have : l.any p = true := List.any_eq_true.2 ⟨l[i], List.getElem_mem hi, hp⟩
    rw [this]; simp
theorem gatherA {α β R : Type} {l : List α} {p : α → Bool} {g : α → β} {acc : List β} {f : Nat → List β → (List β → Option R) → (List β → Option R) → Option R} {fin : List β → Option R} (hl : acc.length + l.length ≤ 1099511627776)
    (step : ∀ k nx x s, l[k]? = some x → s.length ≤ 1099511627776 → f k s nx fin = nx (if p x = true then s ++ [g x] else s)) : cntK f l.length 0 acc fin = fin (acc ++ (l.filter p).map g) := by
  have key : ∀ m k, k + m = l.length → cntK f m k (acc ++ ((l.take k).filter p).map g) fin = fin (acc ++ (l.filter p).map g) := by
    intro m
    induction m with
    | zero => intro k hk; obtain rfl : k = l.length := by omega
              rw [List.take_of_length_le (Nat.le_refl _)]; rfl
    | succ m ih =>
      intro k hk
      obtain ⟨x, hx, _⟩ := at_lt (l := l) (k := k) (by omega)
      show f k _ _ fin = _
      have hle : (acc ++ ((l.take k).filter p).map g).length ≤ 1099511627776 := by
        rw [List.length_append, List.length_map]
        have := List.length_filter_le p (l.take k)
        rw [List.length_take] at this
        omega
      rw [step k _ x _ hx hle, ← ih (k + 1) (by omega), take_next hx, List.filter_append, List.map_append]
      cases hp : p x <;> simp [List.filter, hp]
  have h0 := key l.length 0 (by omega)
  simpa using h0
/-- a loop with fuel over what stands from k on -/
theorem gatherL {α β R : Type} {l : List α} {p : α → Bool} {g : α → β} {f : List β × Int → (List β × Int → Option R) → (List β × Int → Option R) → Option R} {fin : List β × Int → Option R}
    (step : ∀ (k : Nat) nx x s, l[k]? = some x → s.length ≤ 1099511627776 → f (s, (k : Int)) nx fin = nx (if p x = true then s ++ [g x] else s, ((k + 1 : Nat) : Int)))
    (stop : ∀ s nx, f (s, (l.length : Int)) nx fin = fin (s, (l.length : Int))) : ∀ (fuel k : Nat) (acc : List β), k ≤ l.length → l.length - k < fuel → acc.length + l.length ≤ 1099511627776 + k → loopK f fuel (acc, (k : Int)) fin = fin (acc ++ ((l.drop k).filter p).map g, (l.length : Int)) := by
  intro fuel
  induction fuel with
  | zero => intro k acc hk hf; omega
  | succ m ih =>
    intro k acc hk hf ha
    show f (acc, (k : Int)) _ fin = _
    by_cases he : k = l.length
    · subst he; rw [stop, List.drop_of_length_le (Nat.le_refl _)]; simp
    · obtain ⟨x, hx, _⟩ := at_lt (l := l) (k := k) (by omega)
      rw [step k _ x acc hx (by omega), ih (k + 1) _ (by omega) (by omega) (by
        split
        · rw [List.length_append, List.length_singleton]; omega
        · omega)]
      obtain ⟨hlt, e⟩ := List.getElem?_eq_some_iff.1 hx
      rw [List.drop_eq_getElem_cons hlt, e]
      cases hp : p x <;> simp [List.filter, hp]
end Go.Proofs.Ytpbbechgpgnpbaa.QCount

/- loop.example/g01062/impl.HueDistance as a plain function, and the contract of the program's: where the plain one has an answer, the program has it. Conditions: slices read as lists. -/
namespace Go.Proofs.Ytpbbechgpgnpbaa.GiHueDistance
set_option linter.unusedVariables false
set_option linter.unusedSimpArgs false
open Go.RowKit
open Go.Proofs.Ytpbbechgpgnpbaa.Rowed Go.Proofs.Ytpbbechgpgnpbaa.Turn Go.Proofs.Ytpbbechgpgnpbaa.Aid Go.Proofs.Ytpbbechgpgnpbaa.GoP Go.Proofs.Ytpbbechgpgnpbaa.GoM

def P (a : Int) (b : Int) : Option (Int × Bool) :=
  Option.bind (Go.Proofs.Ytpbbechgpgnpbaa.GiIsHue.P a) fun (t_3 : Bool) =>
  letK (!t_3) fun (t_4 : Bool) =>
  joinK (fun (t_9 : Bool) =>
  iteK t_9
  (some (0, false))
  (Option.bind (Go.Proofs.Ytpbbechgpgnpbaa.GiLoHueDistance.P a b) fun (t_14 : Int) =>
  some (t_14, true))) fun jt_9 => iteK t_4 (appK jt_9 true) (Option.bind (Go.Proofs.Ytpbbechgpgnpbaa.GiIsHue.P b) fun (t_7 : Bool) =>
  letK (!t_7) fun (t_8 : Bool) =>
  appK jt_9 t_8)

set_option maxRecDepth 100000 in
set_option maxHeartbeats 2000000 in
theorem C (a : Int) (b : Int)   (w : World)   {r0 : Int} {r1 : Bool} (H : Hid (P a b = some (r0, r1))) :
    Calls Try.prog 25 #[.int .i64 a, .int .i64 b] w (Gives (.tuple #[.int .i64 r0, .bool r1]) w) := by
  have HB := Lib.hid (Below.refl w.heap.size w)
  unfold P at H
  go_enter Try.func25, Try.ntmps25
  replace H := bind_hid H
  obtain ⟨t_3, qt_3, H⟩ := H
  go_wp2_with fail
  go_at_call 57
  refine (Go.Proofs.Ytpbbechgpgnpbaa.GiIsHue.C (a)  _    qt_3).mono ?_
  rintro e_t_3 wt_3 ⟨rfl, bt_3⟩
  have HBwt_3 := Lib.hid (Below.step HB.out bt_3)
  clear bt_3
  cases t_3 with
  | false =>
    replace H := let_hid H
    obtain ⟨t_4, ht_4, H⟩ := H
    obtain rfl : t_4 = true := ht_4.symm
    replace H := join_hid H
    replace H := ite_t H
    replace H := app_hid H
    replace H := ite_t H
    cases ret_hid H
    go_wp2_with fail
    go_ret2
    exact ⟨rfl, HBwt_3.out⟩
  | true =>
    replace H := let_hid H
    obtain ⟨t_4, ht_4, H⟩ := H
    obtain rfl : t_4 = false := ht_4.symm
    replace H := join_hid H
    replace H := ite_f H
    replace H := bind_hid H
    obtain ⟨t_7, qt_7, H⟩ := H
    go_wp2_with fail
    go_at_call 57
    refine (Go.Proofs.Ytpbbechgpgnpbaa.GiIsHue.C (b)  _    qt_7).mono ?_
    rintro e_t_7 wt_7 ⟨rfl, bt_7⟩
    have HBwt_7 := Lib.hid (Below.step HBwt_3.out bt_7)
    clear bt_7
    cases t_7 with
    | false =>
      replace H := let_hid H
      obtain ⟨t_8, ht_8, H⟩ := H
      obtain rfl : t_8 = true := ht_8.symm
      replace H := app_hid H
      replace H := ite_t H
      cases ret_hid H
      go_wp2_with fail
      go_ret2
      exact ⟨rfl, HBwt_7.out⟩
    | true =>
      replace H := let_hid H
      obtain ⟨t_8, ht_8, H⟩ := H
      obtain rfl : t_8 = false := ht_8.symm
      replace H := app_hid H
      replace H := ite_f H
      replace H := bind_hid H
      obtain ⟨t_14, qt_14, H⟩ := H
      go_wp2_with fail
      go_at_call 66
      refine (Go.Proofs.Ytpbbechgpgnpbaa.GiLoHueDistance.C (a) (b)  _    qt_14).mono ?_
      rintro e_t_14 wt_14 ⟨rfl, bt_14⟩
      have HBwt_14 := Lib.hid (Below.step HBwt_7.out bt_14)
      clear bt_14
      cases ret_hid H
      go_wp2_with fail
      go_ret2
      exact ⟨rfl, HBwt_14.out⟩
end Go.Proofs.Ytpbbechgpgnpbaa.GiHueDistance

/- loop.example/g01062/spec.HueDistance as a plain function, and the contract of the program's: where the plain one has an answer, the program has it. Conditions: slices read as lists. -/
namespace Go.Proofs.Ytpbbechgpgnpbaa.GsHueDistance
set_option linter.unusedVariables false
set_option linter.unusedSimpArgs false
open Go.RowKit
open Go.Proofs.Ytpbbechgpgnpbaa.Rowed Go.Proofs.Ytpbbechgpgnpbaa.Turn Go.Proofs.Ytpbbechgpgnpbaa.Aid Go.Proofs.Ytpbbechgpgnpbaa.GoP Go.Proofs.Ytpbbechgpgnpbaa.GoM

def P (a : Int) (b : Int) : Option (Int × Bool) :=
  Option.bind (Go.Proofs.Ytpbbechgpgnpbaa.GsL7Hue.P a) fun (t_3 : Bool) =>
  letK (!t_3) fun (t_4 : Bool) =>
  joinK (fun (t_9 : Bool) =>
  iteK t_9
  (some (0, false))
  (Option.bind (Go.Proofs.Ytpbbechgpgnpbaa.GsL7Far.P a b) fun (t_14 : Int) =>
  some (t_14, true))) fun jt_9 => iteK t_4 (appK jt_9 true) (Option.bind (Go.Proofs.Ytpbbechgpgnpbaa.GsL7Hue.P b) fun (t_7 : Bool) =>
  letK (!t_7) fun (t_8 : Bool) =>
  appK jt_9 t_8)

set_option maxRecDepth 100000 in
set_option maxHeartbeats 2000000 in
theorem C (a : Int) (b : Int)   (w : World)   {r0 : Int} {r1 : Bool} (H : Hid (P a b = some (r0, r1))) :
    Calls Try.prog 24 #[.int .i64 a, .int .i64 b] w (Gives (.tuple #[.int .i64 r0, .bool r1]) w) := by
  have HB := Lib.hid (Below.refl w.heap.size w)
  unfold P at H
  go_enter Try.func24, Try.ntmps24
  replace H := bind_hid H
  obtain ⟨t_3, qt_3, H⟩ := H
  go_wp2_with fail
  go_at_call 64
  refine (Go.Proofs.Ytpbbechgpgnpbaa.GsL7Hue.C (a)  _    qt_3).mono ?_
  rintro e_t_3 wt_3 ⟨rfl, bt_3⟩
  have HBwt_3 := Lib.hid (Below.step HB.out bt_3)
  clear bt_3
  cases t_3 with
  | false =>
    replace H := let_hid H
    obtain ⟨t_4, ht_4, H⟩ := H
    obtain rfl : t_4 = true := ht_4.symm
    replace H := join_hid H
    replace H := ite_t H
    replace H := app_hid H
    replace H := ite_t H
    cases ret_hid H
    go_wp2_with fail
    go_ret2
    exact ⟨rfl, HBwt_3.out⟩
  | true =>
    replace H := let_hid H
    obtain ⟨t_4, ht_4, H⟩ := H
    obtain rfl : t_4 = false := ht_4.symm
    replace H := join_hid H
    replace H := ite_f H
    replace H := bind_hid H
    obtain ⟨t_7, qt_7, H⟩ := H
    go_wp2_with fail
    go_at_call 64
    refine (Go.Proofs.Ytpbbechgpgnpbaa.GsL7Hue.C (b)  _    qt_7).mono ?_
    rintro e_t_7 wt_7 ⟨rfl, bt_7⟩
    have HBwt_7 := Lib.hid (Below.step HBwt_3.out bt_7)
    clear bt_7
    cases t_7 with
    | false =>
      replace H := let_hid H
      obtain ⟨t_8, ht_8, H⟩ := H
      obtain rfl : t_8 = true := ht_8.symm
      replace H := app_hid H
      replace H := ite_t H
      cases ret_hid H
      go_wp2_with fail
      go_ret2
      exact ⟨rfl, HBwt_7.out⟩
    | true =>
      replace H := let_hid H
      obtain ⟨t_8, ht_8, H⟩ := H
      obtain rfl : t_8 = false := ht_8.symm
      replace H := app_hid H
      replace H := ite_f H
      replace H := bind_hid H
      obtain ⟨t_14, qt_14, H⟩ := H
      go_wp2_with fail
      go_at_call 65
      refine (Go.Proofs.Ytpbbechgpgnpbaa.GsL7Far.C (a) (b)  _    qt_14).mono ?_
      rintro e_t_14 wt_14 ⟨rfl, bt_14⟩
      have HBwt_14 := Lib.hid (Below.step HBwt_7.out bt_14)
      clear bt_14
      cases ret_hid H
      go_wp2_with fail
      go_ret2
      exact ⟨rfl, HBwt_14.out⟩
end Go.Proofs.Ytpbbechgpgnpbaa.GsHueDistance

/- Chapter 7: hues and shades: the plain functions of the program and of the reference agree, and the laws answer true. (Q7Hue) No condition but those of each theorem. -/
namespace Go.Proofs.Ytpbbechgpgnpbaa.Q7Hue
set_option linter.unusedVariables false
set_option linter.unusedSimpArgs false
open Go.RowKit
open Go.Proofs.Ytpbbechgpgnpbaa.GoP Go.Proofs.Ytpbbechgpgnpbaa.PlainStamp Go.Proofs.Ytpbbechgpgnpbaa.QBase Go.Proofs.Ytpbbechgpgnpbaa.QLoop

def far (a b : Int) : Int := min (max (a - b) (b - a)) (360 - max (a - b) (b - a))
theorem isHue_eq (h : Int) : GiIsHue.P h = some (inB h 0 359) := by simp only [GiIsHue.P, within_eq, Option.bind_some]
theorem l7Hue_eq (h : Int) : GsL7Hue.P h = some (inB h 0 359) := by simp only [GsL7Hue.P, l1In_eq, Option.bind_some]
theorem most_eq (a b : Int) : GsL1Most.P a b = some (max a b) := by
  simp only [GsL1Most.P, letK, iteK_if]
  by_cases h : b < a
  · rw [if_pos (by simpa using h)]; congr 1; omega
  · rw [if_neg (by simpa using h)]; congr 1; omega
theorem least_eq (a b : Int) : GsL1Least.P a b = some (min a b) := by
  simp only [GsL1Least.P, letK, iteK_if]
  by_cases h : a < b
  · rw [if_pos (by simpa using h)]; congr 1; omega
  · rw [if_neg (by simpa using h)]; congr 1; omega
theorem circle_eq {n : Int} (h1 : -360 ≤ n) (h2 : n ≤ 719) : GiOnCircle.P n = some ((n + 360) % 360) := by
  simp only [GiOnCircle.P, letK]
  rw [wrap_in (by omega) (by omega), Int.tmod_eq_emod_of_nonneg (by omega)]
theorem up_eq {a b : Int} (ha : 0 ≤ a ∧ a ≤ 359) (hb : 0 ≤ b ∧ b ≤ 359) : GiUpwards.P a b = some ((b - a + 360) % 360) := by
  simp only [GiUpwards.P, letK]
  rw [wrap_in (by omega) (by omega), circle_eq (by omega) (by omega)]; rfl
theorem dist_eq {a b : Int} (ha : 0 ≤ a ∧ a ≤ 359) (hb : 0 ≤ b ∧ b ≤ 359) : GiLoHueDistance.P a b = some (far a b) := by
  simp only [GiLoHueDistance.P, up_eq ha hb, up_eq hb ha, Option.bind_some, letK, far]
  congr 1; omega
theorem l7Far_eq {a b : Int} (ha : 0 ≤ a ∧ a ≤ 359) (hb : 0 ≤ b ∧ b ≤ 359) : GsL7Far.P a b = some (far a b) := by
  simp only [GsL7Far.P, most_eq, least_eq, Option.bind_some, letK]
  rw [wrap_in (x := a - b) (by omega) (by omega), wrap_in (x := b - a) (by omega) (by omega), wrap_in (by omega) (by omega)]; rfl
def hueRes (a b : Int) : Int × Bool := if (inB a 0 359 && inB b 0 359) = true then (far a b, true) else (0, false)
theorem hue_impl (a b : Int) : GiHueDistance.P a b = some (hueRes a b) := by
  simp only [GiHueDistance.P, isHue_eq, Option.bind_some, letK, joinK, appK, iteK_if, hueRes]
  cases ha : inB a 0 359 with
  | false => simp
  | true =>
    cases hb : inB b 0 359 with
    | false => simp
    | true => simp [dist_eq (inB_of ha) (inB_of hb)]
theorem hue_spec (a b : Int) : GsHueDistance.P a b = some (hueRes a b) := by
  simp only [GsHueDistance.P, l7Hue_eq, Option.bind_some, letK, joinK, appK, iteK_if, hueRes]
  cases ha : inB a 0 359 with
  | false => simp
  | true =>
    cases hb : inB b 0 359 with
    | false => simp
    | true => simp [l7Far_eq (inB_of ha) (inB_of hb)]
end Go.Proofs.Ytpbbechgpgnpbaa.Q7Hue

/- Words: the tests of a word of the program and of the reference as plain functions. (QWord) No condition but those of each theorem. -/
namespace Go.Proofs.Ytpbbechgpgnpbaa.QWord
set_option linter.unusedVariables false
set_option linter.unusedSimpArgs false
open Go.RowKit
open Go.Proofs.Ytpbbechgpgnpbaa.GoP Go.Proofs.Ytpbbechgpgnpbaa.PlainStamp Go.Proofs.Ytpbbechgpgnpbaa.QBase Go.Proofs.Ytpbbechgpgnpbaa.QLoop

def small (b : UInt8) : Bool := decide (97 ≤ b.toNat ∧ b.toNat ≤ 122)
def wordB (s : ByteArray) : Bool := inB (s.size : Int) 1 10 && s.toList.all small
theorem size_list (s : ByteArray) : s.toList.length = s.size := by rw [Lib.toList_data]; rfl
theorem isLetter_eq (b : UInt8) : GiIsLetter.P (b.toNat : Int) = some (small b) := by
  simp only [GiIsLetter.P, letK, joinK, appK, iteK_if]
  unfold small
  by_cases h1 : 97 ≤ b.toNat
  · by_cases h2 : b.toNat ≤ 122
    · simp [h1, h2, show (97 : Int) ≤ b.toNat by omega, show (b.toNat : Int) ≤ 122 by omega]
    · simp [h1, h2, show (97 : Int) ≤ b.toNat by omega, show ¬ (b.toNat : Int) ≤ 122 by omega]
  · simp [h1, show ¬ (97 : Int) ≤ b.toNat by omega]
theorem isWord_eq (s : ByteArray) : GiIsWord.P s = some (wordB s) := by
  cases hb : inB (s.size : Int) 1 10 with
  | false => simp only [GiIsWord.P, within_eq, hb, Option.bind_some, letK, iteK_if, wordB]; rfl
  | true =>
    have h := inB_of hb
    simp only [GiIsWord.P, within_eq, hb, Option.bind_some, letK, iteK_if]
    rw [if_neg (by simp), guardK_pos (by omega)]
    refine cnt_is _ (fun k _ => (s.toList.take k).all small = true) ?_ ?_ () rfl
    · intro k u nx hk hI hn
      obtain ⟨y, hy, hi⟩ := at_lt (l := s.toList) (k := k) (by rw [size_list]; exact hk)
      simp only [GiIsWord.l0, hi, Option.bind_some, letK, joinK, appK, iteK_if, isLetter_eq]
      cases hs : small y with
      | false =>
        have : wordB s = false := by unfold wordB; rw [not_all hy hs, Bool.and_false]
        simp [this]
      | true => exact hn () (by rw [all_next hy, hI, hs]; rfl)
    · intro u hI
      rw [List.take_of_length_le (by rw [size_list]; exact Nat.le_refl _)] at hI
      simp [GiIsWord.e0, wordB, hb, hI]
theorem l2Word_eq (s : ByteArray) (hz : s.size ≤ 9223372036854775807) : GsL2Word.P s = some (wordB s) := by
  simp only [GsL2Word.P]
  rw [guardK_pos hz]
  refine cnt_is _ (fun k _ => (s.toList.take k).all small = true) ?_ ?_ () rfl
  · intro k u nx hk hI hn
    obtain ⟨y, hy, hi⟩ := at_lt (l := s.toList) (k := k) (by rw [size_list]; exact hk)
    simp only [GsL2Word.l0, hi, Option.bind_some, letK, joinK, appK, iteK_if]
    by_cases h1 : (y.toNat : Int) < 97
    · have : wordB s = false := by unfold wordB; rw [not_all hy (by unfold small; simp; omega), Bool.and_false]
      simp [h1, this]
    · by_cases h2 : (122 : Int) < (y.toNat : Int)
      · have : wordB s = false := by unfold wordB; rw [not_all hy (by unfold small; simp; omega), Bool.and_false]
        simp [h1, h2, this]
      · simp [h1, h2]
        exact hn () (by rw [all_next hy, hI]; unfold small; simp; omega)
  · intro u hI
    rw [List.take_of_length_le (by rw [size_list]; exact Nat.le_refl _)] at hI
    simp [GsL2Word.e0, wordB, l1In_eq, hI]
theorem word_len {s : ByteArray} (h : wordB s = true) : 1 ≤ s.size ∧ s.size ≤ 10 := by
  unfold wordB at h
  simp only [Bool.and_eq_true] at h
  have := inB_of h.1; omega
end Go.Proofs.Ytpbbechgpgnpbaa.QWord

/- Chapter 7: hues and shades: the plain functions of the program and of the reference agree, and the laws answer true. (Q7Shade) No condition but those of each theorem. -/
namespace Go.Proofs.Ytpbbechgpgnpbaa.Q7Shade
set_option linter.unusedVariables false
set_option linter.unusedSimpArgs false
open Go.RowKit
open Go.Proofs.Ytpbbechgpgnpbaa.GoP Go.Proofs.Ytpbbechgpgnpbaa.PlainStamp Go.Proofs.Ytpbbechgpgnpbaa.QBase Go.Proofs.Ytpbbechgpgnpbaa.Q7Hue Go.Proofs.Ytpbbechgpgnpbaa.QWord Go.Proofs.Ytpbbechgpgnpbaa.QOrd Go.Proofs.Ytpbbechgpgnpbaa.QLoop Go.Proofs.Ytpbbechgpgnpbaa.PShade

theorem isLight_eq (h : Int) : GiIsLightness.P h = some (inB h 0 100) := by simp only [GiIsLightness.P, within_eq, Option.bind_some]
def okSh (x : Shade) : Bool := wordB x.name && inB x.hue 0 359 && inB x.width 0 179 && inB x.dark 0 100 && inB x.light 0 100 && decide (x.dark ≤ x.light)
theorem fits_name {x : Shade} (h : x.fits) : x.name.size ≤ 9223372036854775807 := h.1
theorem isShade_eq (x : Shade) : GiIsShade.P x = some (okSh x) := by
  obtain ⟨a, b, c, d, e⟩ := x
  simp only [GiIsShade.P, unShade, isWord_eq, isHue_eq, isLight_eq, within_eq, Option.bind_some, letK, joinK, appK, iteK_if, okSh]
  cases wordB a <;> cases inB b 0 359 <;> cases inB c 0 179 <;> cases inB d 0 100 <;> cases inB e 0 100 <;> simp
theorem l7One_eq (x : Shade) (h : x.fits) : GsL7One.P x = some (okSh x) := by
  have hz := fits_name h
  obtain ⟨a, b, c, d, e⟩ := x
  have hx : (inB e 0 100 && inB d 0 e) = (inB d 0 100 && inB e 0 100 && decide (d ≤ e)) := by unfold inB; rw [Bool.eq_iff_iff]; simp; omega
  simp only [GsL7One.P, unShade, l2Word_eq a hz, l7Hue_eq, l1In_eq, Option.bind_some, letK, joinK, appK, iteK_if, okSh]
  have hy : (wordB a && inB b 0 359 && inB c 0 179 && inB d 0 100 && inB e 0 100 && decide (d ≤ e)) = (wordB a && inB b 0 359 && inB c 0 179 && (inB e 0 100 && inB d 0 e)) := by rw [hx]; simp [Bool.and_assoc]
  rw [hy]
  cases wordB a <;> cases inB b 0 359 <;> cases inB c 0 179 <;> cases inB e 0 100 <;> simp
theorem okSh_of {x : Shade} (h : okSh x = true) : (0 ≤ x.hue ∧ x.hue ≤ 359) ∧ (0 ≤ x.width ∧ x.width ≤ 179) ∧ (0 ≤ x.dark ∧ x.dark ≤ 100) ∧ (0 ≤ x.light ∧ x.light ≤ 100) ∧ x.dark ≤ x.light ∧ wordB x.name = true := by
  unfold okSh at h
  simp only [Bool.and_eq_true, decide_eq_true_eq] at h
  exact ⟨inB_of h.1.1.1.1.2, inB_of h.1.1.1.2, inB_of h.1.1.2, inB_of h.1.2, h.2, h.1.1.1.1.1⟩
end Go.Proofs.Ytpbbechgpgnpbaa.Q7Shade

/- Chapter 7: hues and shades: the plain functions of the program and of the reference agree, and the laws answer true. (Q7List) No condition but those of each theorem. -/
namespace Go.Proofs.Ytpbbechgpgnpbaa.Q7List
set_option linter.unusedVariables false
set_option linter.unusedSimpArgs false
open Go.RowKit
open Go.Proofs.Ytpbbechgpgnpbaa.GoP Go.Proofs.Ytpbbechgpgnpbaa.PlainStamp Go.Proofs.Ytpbbechgpgnpbaa.QBase Go.Proofs.Ytpbbechgpgnpbaa.Q7Shade Go.Proofs.Ytpbbechgpgnpbaa.QOrd Go.Proofs.Ytpbbechgpgnpbaa.QLoop Go.Proofs.Ytpbbechgpgnpbaa.PShade

def nameLt (r s : Shade) : Bool := bl r.name s.name
def okShs (l : List Shade) : Bool := riseL 12 okSh nameLt l
theorem areShades_eq (l : List Shade) (hl : l.length ≤ 9223372036854775807) : GiAreShades.P l = some (okShs l) := by
  simp only [GiAreShades.P, GiAreByKeyShadeStringiIsShadeiNameOfShade.P, letK, iteK_if]
  by_cases h12 : l.length ≤ 12
  · rw [if_neg (by simp; omega), rise_loop (ok := okSh) (lt := nameLt) (no := false)]
    · unfold okShs riseL; cases riseTo okSh nameLt l l.length <;> simp [h12, GiAreByKeyShadeStringiIsShadeiNameOfShade.e0]
    · intro k nx s hs
      have hi : idx l (k : Int) = some s := by rw [idx_nat, hs]
      have hk : k < l.length := (List.getElem?_eq_some_iff.1 hs).1
      simp only [GiAreByKeyShadeStringiIsShadeiNameOfShade.l0, hi, Option.bind_some, unShade, isShade_eq, GiNameOfShade.P, letK, joinK, appK, iteK_if, bl_le]
      refine ⟨fun h => by simp [h], fun h => ⟨fun h0 => by subst h0; simp [h], fun h0 r hr => ?_⟩⟩
      rw [idx_pred h0 (by omega) hr]
      have hk0 : (0 : Int) < (k : Int) := by omega
      have hk1 : ¬ k = 0 := by omega
      exact ⟨fun hlt => by (have hc : bl r.name s.name = true := hlt); simp [h, hk0, hk1, hc], fun hge => by (have hc : bl r.name s.name = false := hge); simp [h, hk0, hk1, hc]⟩
  · rw [if_pos (by simp; omega)]; unfold okShs riseL; simp [h12]
theorem l7Good_eq (l : List Shade) (hf : ∀ s ∈ l, s.fits) (hl : l.length ≤ 9223372036854775807) : GsL7Good.P l = some (okShs l) := by
  simp only [GsL7Good.P]
  rw [rise_loop (ok := okSh) (lt := nameLt) (no := false)]
  · unfold okShs riseL; cases riseTo okSh nameLt l l.length <;> simp [GsL7Good.e0, letK]; omega
  · intro k nx s hs
    have hi : idx l (k : Int) = some s := by rw [idx_nat, hs]
    have hk : k < l.length := (List.getElem?_eq_some_iff.1 hs).1
    have hm := hf s (List.mem_of_getElem? hs)
    have h1 := l7One_eq s hm
    simp only [GsL7Good.l0, hi, Option.bind_some, unShade, h1, letK, joinK, appK, iteK_if, bl_lt]
    refine ⟨fun h => by simp [h], fun h => ⟨fun h0 => by subst h0; simp [h], fun h0 r hr => ?_⟩⟩
    rw [idx_pred h0 (by omega) hr]
    have hk0 : (0 : Int) < (k : Int) := by omega
    have hk1 : ¬ k = 0 := by omega
    exact ⟨fun hlt => by (have hc : bl r.name s.name = true := hlt); simp [h, hk0, hk1, hc], fun hge => by (have hc : bl r.name s.name = false := hge); simp [h, hk0, hk1, hc]⟩
theorem shs_mem {l : List Shade} (h : okShs l = true) {x : Shade} (hx : x ∈ l) : okSh x = true := riseL_mem h hx
end Go.Proofs.Ytpbbechgpgnpbaa.Q7List

/- loop.example/g01062/impl.canLook as a plain function, and the contract of the program's: where the plain one has an answer, the program has it. Conditions: slices read as lists. -/
namespace Go.Proofs.Ytpbbechgpgnpbaa.GiCanLook
set_option linter.unusedVariables false
set_option linter.unusedSimpArgs false
open Go.RowKit
open Go.Proofs.Ytpbbechgpgnpbaa.Rowed Go.Proofs.Ytpbbechgpgnpbaa.Turn Go.Proofs.Ytpbbechgpgnpbaa.Aid Go.Proofs.Ytpbbechgpgnpbaa.GoP Go.Proofs.Ytpbbechgpgnpbaa.GoM

def P (list : (List Go.Proofs.Ytpbbechgpgnpbaa.PShade.Shade)) (hue : Int) (light : Int) : Option (Bool) :=
  Option.bind (Go.Proofs.Ytpbbechgpgnpbaa.GiAreShades.P list) fun (t_2 : Bool) =>
  joinK (fun (t_6 : Bool) =>
  joinK (fun (t_10 : Bool) =>
  some t_10) fun jt_10 => iteK t_6 (Option.bind (Go.Proofs.Ytpbbechgpgnpbaa.GiIsLightness.P light) fun (t_9 : Bool) =>
  appK jt_10 t_9) (appK jt_10 false)) fun jt_6 => iteK t_2 (Option.bind (Go.Proofs.Ytpbbechgpgnpbaa.GiIsHue.P hue) fun (t_5 : Bool) =>
  appK jt_6 t_5) (appK jt_6 false)

set_option maxRecDepth 100000 in
set_option maxHeartbeats 2000000 in
theorem C (list : (List Go.Proofs.Ytpbbechgpgnpbaa.PShade.Shade)) (hue : Int) (light : Int) (A0 : Option Addr) (c0 : Nat)  (w : World) (M0 : Hid (Cells w 5 A0 list.length (Go.Proofs.Ytpbbechgpgnpbaa.PShade.flat list))) (N0 : Hid (list.length ≤ 9223372036854775807))  {r : Bool} (H : Hid (P list hue light = some r)) :
    Calls Try.prog 69 #[.slice A0 list.length c0, .int .i64 hue, .int .i64 light] w (Gives (.bool r) w) := by
  have HB := Lib.hid (Below.refl w.heap.size w)
  unfold P at H
  have N0o := N0.out
  go_enter Try.func69, Try.ntmps69
  replace H := bind_hid H
  obtain ⟨t_2, qt_2, H⟩ := H
  go_wp2_with fail
  go_at_call 22
  refine (Go.Proofs.Ytpbbechgpgnpbaa.GiAreShades.C (list) A0 c0 _   (Lib.hid (Cells.below M0.out HB.out)) N0 qt_2).mono ?_
  rintro e_t_2 wt_2 ⟨rfl, bt_2⟩
  have HBwt_2 := Lib.hid (Below.step HB.out bt_2)
  clear bt_2
  replace H := join_hid H
  cases t_2 with
  | false =>
    replace H := ite_f H
    replace H := app_hid H
    replace H := join_hid H
    replace H := ite_f H
    replace H := app_hid H
    obtain rfl := ret_hid H
    go_wp2_with fail
    go_ret
    exact ⟨rfl, HBwt_2.out⟩
  | true =>
    replace H := ite_t H
    replace H := bind_hid H
    obtain ⟨t_5, qt_5, H⟩ := H
    go_wp2_with fail
    go_at_call 57
    refine (Go.Proofs.Ytpbbechgpgnpbaa.GiIsHue.C (hue)  _    qt_5).mono ?_
    rintro e_t_5 wt_5 ⟨rfl, bt_5⟩
    have HBwt_5 := Lib.hid (Below.step HBwt_2.out bt_5)
    clear bt_5
    replace H := app_hid H
    replace H := join_hid H
    cases t_5 with
    | false =>
      replace H := ite_f H
      replace H := app_hid H
      obtain rfl := ret_hid H
      go_wp2_with fail
      go_ret
      exact ⟨rfl, HBwt_5.out⟩
    | true =>
      replace H := ite_t H
      replace H := bind_hid H
      obtain ⟨t_9, qt_9, H⟩ := H
      go_wp2_with fail
      go_at_call 59
      refine (Go.Proofs.Ytpbbechgpgnpbaa.GiIsLightness.C (light)  _    qt_9).mono ?_
      rintro e_t_9 wt_9 ⟨rfl, bt_9⟩
      have HBwt_9 := Lib.hid (Below.step HBwt_5.out bt_9)
      clear bt_9
      replace H := app_hid H
      obtain rfl := ret_hid H
      go_wp2_with fail
      go_ret
      exact ⟨rfl, HBwt_9.out⟩
end Go.Proofs.Ytpbbechgpgnpbaa.GiCanLook

/- Chapter 7: hues and shades: the plain functions of the program and of the reference agree, and the laws answer true. (Q7Takes) No condition but those of each theorem. -/
namespace Go.Proofs.Ytpbbechgpgnpbaa.Q7Takes
set_option linter.unusedVariables false
set_option linter.unusedSimpArgs false
open Go.RowKit
open Go.Proofs.Ytpbbechgpgnpbaa.GoP Go.Proofs.Ytpbbechgpgnpbaa.PlainStamp Go.Proofs.Ytpbbechgpgnpbaa.QBase Go.Proofs.Ytpbbechgpgnpbaa.Q7List Go.Proofs.Ytpbbechgpgnpbaa.Q7Shade Go.Proofs.Ytpbbechgpgnpbaa.Q7Hue Go.Proofs.Ytpbbechgpgnpbaa.QLoop Go.Proofs.Ytpbbechgpgnpbaa.PShade

def takesB (x : Shade) (hue light : Int) : Bool := decide (far x.hue hue ≤ x.width) && inB light x.dark x.light
theorem takesIn_eq {x : Shade} {hue : Int} (light : Int) (hx : okSh x = true) (hh : 0 ≤ hue ∧ hue ≤ 359) : GiTakesIn.P x hue light = some (takesB x hue light) := by
  have h1 := okSh_of hx
  obtain ⟨a, b, c, d, e⟩ := x
  dsimp only at h1
  simp only [GiTakesIn.P, unShade, dist_eq h1.1 hh, within_eq, Option.bind_some, letK, joinK, appK, iteK_if, takesB]
  by_cases h : far b hue ≤ c <;> simp [h]
theorem l7Takes_eq {x : Shade} {hue : Int} (light : Int) (hx : okSh x = true) (hh : 0 ≤ hue ∧ hue ≤ 359) : GsL7Takes.P x hue light = some (takesB x hue light) := by
  have h1 := okSh_of hx
  obtain ⟨a, b, c, d, e⟩ := x
  dsimp only at h1
  simp only [GsL7Takes.P, unShade, l7Far_eq h1.1 hh, l1In_eq, Option.bind_some, letK, joinK, appK, iteK_if, takesB]
  by_cases h : far b hue ≤ c <;> simp [h]
theorem canLook_eq (l : List Shade) (hue light : Int) (hl : l.length ≤ 9223372036854775807) : GiCanLook.P l hue light = some (okShs l && inB hue 0 359 && inB light 0 100) := by
  simp only [GiCanLook.P, areShades_eq l hl, isHue_eq, isLight_eq, Option.bind_some, joinK, appK, iteK_if]
  cases okShs l <;> cases inB hue 0 359 <;> simp
end Go.Proofs.Ytpbbechgpgnpbaa.Q7Takes

/- Chapter 7: hues and shades: the plain functions of the program and of the reference agree, and the laws answer true. (Q7Free) No condition but those of each theorem. -/
namespace Go.Proofs.Ytpbbechgpgnpbaa.Q7Free
set_option linter.unusedVariables false
set_option linter.unusedSimpArgs false
open Go.RowKit
open Go.Proofs.Ytpbbechgpgnpbaa.GoP Go.Proofs.Ytpbbechgpgnpbaa.PlainStamp Go.Proofs.Ytpbbechgpgnpbaa.QBase Go.Proofs.Ytpbbechgpgnpbaa.QCount Go.Proofs.Ytpbbechgpgnpbaa.Q7Takes Go.Proofs.Ytpbbechgpgnpbaa.Q7List Go.Proofs.Ytpbbechgpgnpbaa.Q7Shade Go.Proofs.Ytpbbechgpgnpbaa.Q7Hue Go.Proofs.Ytpbbechgpgnpbaa.QLoop Go.Proofs.Ytpbbechgpgnpbaa.PShade

theorem isFree_eq {l : List Shade} (hok : ∀ x ∈ l, okSh x = true) {hue : Int} (light : Int) (hh : 0 ≤ hue ∧ hue ≤ 359) : GiIsFree.P l hue light = some (!(l.any fun x => takesB x hue light)) := by
  simp only [GiIsFree.P, GxSlicesContainsFuncLoopExampleG01062ImplShadeLoopExampleG01062ImplShadeiIsFree1.P, GxSlicesIndexFuncLoopExampleG01062ImplShadeLoopExampleG01062ImplShadeiIsFree1.P]
  rw [find_loop (p := fun x => takesB x hue light) (yes := fun i => some (i : Int))]
  · rw [← any_find]
    unfold firstI
    cases l.findIdx? fun x => takesB x hue light <;> rfl
  · intro k nx x hx
    have hi : idx l (k : Int) = some x := by rw [idx_nat, hx]
    have ht := takesIn_eq light (hok x (List.mem_of_getElem? hx)) hh
    simp only [GxSlicesIndexFuncLoopExampleG01062ImplShadeLoopExampleG01062ImplShadeiIsFree1.l0, hi, Option.bind_some, unShade, GiIsFree1.P, ht, appK, iteK_if]
theorem l7Count_eq {l : List Shade} (hc : okShs l = true) (h12 : l.length ≤ 12) {hue : Int} (light : Int) (hh : 0 ≤ hue ∧ hue ≤ 359) : GsL7Count.P l hue light = some ((l.filter fun x => takesB x hue light).length : Int) := by
  simp only [GsL7Count.P]
  rw [count_list (p := fun x => takesB x hue light)]
  · rfl
  · intro k nx x s hx hs
    have hi : idx l (k : Int) = some x := by rw [idx_nat, hx]
    have hok := shs_mem hc (List.mem_of_getElem? hx)
    have ht := l7Takes_eq light hok hh
    have hk := (List.getElem?_eq_some_iff.1 hx).1
    simp only [GsL7Count.l0, letK, hi, Option.bind_some, unShade, ht, appK, iteK_if]
    rw [wrap_in (by omega) (by omega)]
    cases takesB x hue light <;> simp
end Go.Proofs.Ytpbbechgpgnpbaa.Q7Free

/- Chapter 7: hues and shades: the plain functions of the program and of the reference agree, and the laws answer true. (Q7Certain) No condition but those of each theorem. -/
namespace Go.Proofs.Ytpbbechgpgnpbaa.Q7Certain
set_option linter.unusedVariables false
set_option linter.unusedSimpArgs false
open Go.RowKit
open Go.Proofs.Ytpbbechgpgnpbaa.GoP Go.Proofs.Ytpbbechgpgnpbaa.PlainStamp Go.Proofs.Ytpbbechgpgnpbaa.QBase Go.Proofs.Ytpbbechgpgnpbaa.QOrd Go.Proofs.Ytpbbechgpgnpbaa.QCount Go.Proofs.Ytpbbechgpgnpbaa.Q7Free Go.Proofs.Ytpbbechgpgnpbaa.Q7Takes Go.Proofs.Ytpbbechgpgnpbaa.Q7List Go.Proofs.Ytpbbechgpgnpbaa.Q7Shade Go.Proofs.Ytpbbechgpgnpbaa.Q7Hue Go.Proofs.Ytpbbechgpgnpbaa.QLoop Go.Proofs.Ytpbbechgpgnpbaa.PShade

def others (l : List Shade) (q : Nat) : List Shade := l.take q ++ l.drop (q + 1)
def certB (l : List Shade) (q : Nat) (light : Int) (h : Nat) : Bool := match l[q]? with | none => false | some x => takesB x (h : Int) light && !((others l q).any fun y => takesB y (h : Int) light)
def isN (name : ByteArray) (x : Shade) : Bool := decide (x.name = name)
def certRes (l : List Shade) (name : ByteArray) (light : Int) : Int × Bool := if (okShs l && inB light 0 100) = true then (match l.findIdx? (isN name) with | none => (0, false) | some q => ((((List.range 360).filter (certB l q light)).length : Int), true)) else (0, false)
theorem cert_impl (l : List Shade) (name : ByteArray) (light : Int) (hl : l.length ≤ 9223372036854775807) : GiCertainHues.P l name light = some (certRes l name light) := by
  simp only [GiCertainHues.P, areShades_eq l hl, isLight_eq, Option.bind_some, letK, joinK, appK, iteK_if, certRes]
  cases hc : okShs l with
  | false => simp
  | true =>
    cases hb : inB light 0 100 with
    | false => simp
    | true =>
      have h12 := riseL_len hc
      have hok : ∀ x ∈ l, okSh x = true := fun x hx => shs_mem hc hx
      simp only [Bool.not_true, Bool.and_true, Bool.false_eq_true, if_false, if_true, GxSlicesIndexFuncLoopExampleG01062ImplShadeLoopExampleG01062ImplShadeiCertainHues1.P]
      rw [find_loop (p := isN name) (yes := fun i => some (i : Int))]
      · cases hq : l.findIdx? (isN name) with
        | none => simp [GxSlicesIndexFuncLoopExampleG01062ImplShadeLoopExampleG01062ImplShadeiCertainHues1.e0]
        | some q =>
          rw [List.findIdx?_eq_some_iff_getElem] at hq
          obtain ⟨hql, hqp, hqb⟩ := hq
          have hcl : GxSlicesCloneLoopExampleG01062ImplShadeLoopExampleG01062ImplShade.P l = some l := by
            simp only [GxSlicesCloneLoopExampleG01062ImplShadeLoopExampleG01062ImplShade.P, Go.Proofs.Ytpbbechgpgnpbaa.GoK.nilK, iteK_if, letK]
            rw [if_neg (by simp), guardK_pos (by simp; omega)]; simp
          have hdel : GxSlicesDeleteLoopExampleG01062ImplShadeLoopExampleG01062ImplShade.P l (q : Int) ((q : Int) + 1) = some (others l q) := by
            simp only [GxSlicesDeleteLoopExampleG01062ImplShadeLoopExampleG01062ImplShade.P]
            rw [guardK_pos (by omega), show Int.toNat ((q : Int) + 1) = q + 1 by omega]; rfl
          have hat : l[q]? = some l[q] := List.getElem?_eq_getElem hql
          have hx := hok l[q] (List.getElem_mem hql)
          have hoth : ∀ x ∈ others l q, okSh x = true := by
            intro x hx
            rcases List.mem_append.1 hx with h | h
            · exact hok x (List.mem_of_mem_take h)
            · exact hok x (List.mem_of_mem_drop h)
          simp only [Option.bind_some]
          rw [if_neg (by simp), wrap_in (by omega) (by omega)]
          simp only [hcl, hdel, Option.bind_some, GiCountHuesiCertainHues2.P]
          rw [count_up (p := certB l q light)]
          · rfl
          · intro k nx s hk hs
            have hidx : idx l (q : Int) = some l[q] := by rw [idx_nat, hat]
            have ht := takesIn_eq light hx (hue := (k : Int)) ⟨by omega, by omega⟩
            have hfr := isFree_eq hoth light (hue := (k : Int)) ⟨by omega, by omega⟩
            have hcb : certB l q light k = (takesB l[q] (k : Int) light && !((others l q).any fun y => takesB y (k : Int) light)) := by unfold certB; rw [hat]
            rw [hcb]
            simp only [GiCountHuesiCertainHues2.l0, letK, GiCertainHues2.P, hidx, Option.bind_some, unShade, ht, hfr, joinK, appK, iteK_if]
            cases takesB l[q] (k : Int) light with
            | false => simp
            | true =>
              rw [wrap_in (by omega) (by omega)]
              cases (others l q).any fun y => takesB y (k : Int) light <;> simp
      · intro k nx x hx
        have hi : idx l (k : Int) = some x := by rw [idx_nat, hx]
        simp only [GxSlicesIndexFuncLoopExampleG01062ImplShadeLoopExampleG01062ImplShadeiCertainHues1.l0, hi, Option.bind_some, unShade, GiCertainHues1.P, letK, appK, iteK_if, eq_list]
        rfl
theorem one_count {l : List Shade} {q : Nat} (hql : q < l.length) (p : Shade → Bool) (hp : p l[q] = true) : (((l.filter p).length : Int) == 1) = !((others l q).any p) := by
  have hat : l[q]? = some l[q] := List.getElem?_eq_getElem hql
  have hsp : l = l.take q ++ l[q] :: l.drop (q + 1) := by rw [← List.drop_eq_getElem_cons hql, List.take_append_drop]
  have e : (l.filter p).length = ((others l q).filter p).length + 1 := by
    conv => lhs; rw [hsp]
    unfold others
    rw [List.filter_append, List.filter_append, List.length_append, List.length_append, List.filter_cons, if_pos hp, List.length_cons]
    omega
  rw [← filter_zero, e, Bool.eq_iff_iff]
  simp only [beq_iff_eq]
  omega
theorem cert_spec (l : List Shade) (name : ByteArray) (light : Int) (hf : ∀ s ∈ l, s.fits) (hl : l.length ≤ 9223372036854775807) : GsCertainHues.P l name light = some (certRes l name light) := by
  simp only [GsCertainHues.P]
  refine cnt_is _ (fun k s => (s = -1 ∧ ∀ (i : Nat) x, i < k → l[i]? = some x → x.name ≠ name) ∨ ∃ (i : Nat) (x : Shade), s = (i : Int) ∧ l[i]? = some x ∧ x.name = name) ?_ ?_ (-1) (Or.inl ⟨rfl, fun i x hi _ => by omega⟩)
  · intro k s nx hk hI hn
    obtain ⟨x, hx, hxi⟩ := at_lt (l := l) (k := k) hk
    simp only [GsCertainHues.l0, letK, hxi, Option.bind_some, unShade, eq_list, iteK_if, appK]
    by_cases he : x.name = name
    · rw [if_pos (by simpa using he)]
      exact hn _ (Or.inr ⟨k, x, rfl, hx, he⟩)
    · rw [if_neg (by simpa using he)]
      refine hn _ ?_
      rcases hI with ⟨h1, h2⟩ | h
      · refine Or.inl ⟨h1, fun i y hi hy => ?_⟩
        by_cases hik : i = k
        · subst hik; rw [hx] at hy; obtain rfl := Option.some.inj hy; exact he
        · exact h2 i y (by omega) hy
      · exact Or.inr h
  · intro s hI
    simp only [GsCertainHues.e0, letK, l7Good_eq l hf hl, l1In_eq, Option.bind_some, joinK, appK, iteK_if, certRes]
    cases hc : okShs l with
    | false => simp
    | true =>
      have h12 := riseL_len hc
      rcases hI with ⟨h1, h2⟩ | ⟨i, x, h1, h2, h3⟩
      · have hno : l.findIdx? (isN name) = none := by
          rw [List.findIdx?_eq_none_iff]
          intro x hx
          obtain ⟨i, hi⟩ := List.getElem?_of_mem hx
          have := h2 i x (List.getElem?_eq_some_iff.1 hi).1 hi
          unfold isN; simpa using this
        subst h1
        simp [hno]
      · subst h1
        obtain ⟨hil, hie⟩ := List.getElem?_eq_some_iff.1 h2
        have hyes : l.findIdx? (isN name) = some i := by
          rw [List.findIdx?_eq_some_iff_getElem]
          refine ⟨hil, by unfold isN; rw [hie]; simpa using h3, fun j hj => ?_⟩
          have hlt := riseL_lt (lt := nameLt) (fun a b c h1 h2 => bl_trans h1 h2) hc (i := j) (j := i) hj (List.getElem?_eq_getElem (by omega)) h2
          have hne := bl_ne hlt
          unfold isN
          rw [h3] at hne
          simpa using hne
        cases hb : inB light 0 100 with
        | false => simp
        | true =>
          have hneg : ¬ ((i : Int) < 0) := by omega
          simp only [hneg, decide_false, Bool.not_true, Bool.and_true, Bool.false_eq_true, if_false, if_true, hyes]
          rw [count_up (p := certB l i light)]
          · rfl
          · intro k nx s hk hs
            have hidx : idx l (i : Int) = some x := by rw [idx_nat, h2]
            have hx := shs_mem hc (List.mem_of_getElem? h2)
            have ht := l7Takes_eq light hx (hue := (k : Int)) ⟨by omega, by omega⟩
            have hcn := l7Count_eq hc h12 light (hue := (k : Int)) ⟨by omega, by omega⟩
            have hcb : certB l i light k = (takesB x (k : Int) light && !((others l i).any fun y => takesB y (k : Int) light)) := by unfold certB; rw [h2]
            rw [hcb]
            simp only [GsCertainHues.l1, letK, hidx, Option.bind_some, unShade, ht, hcn, joinK, appK, iteK_if]
            cases htk : takesB x (k : Int) light with
            | false => simp
            | true =>
              have h1c := one_count hil (fun y => takesB y (k : Int) light) (by rw [hie]; exact htk)
              rw [wrap_in (by omega) (by omega), h1c]
              cases (others l i).any fun y => takesB y (k : Int) light <;> simp
end Go.Proofs.Ytpbbechgpgnpbaa.Q7Certain

/- The laws' helpers on Shade and on slices of it as plain functions: copied, equal, their bulk. No condition. -/
namespace Go.Proofs.Ytpbbechgpgnpbaa.QHShadeE
set_option linter.unusedVariables false
set_option linter.unusedSimpArgs false
open Go.RowKit
open Go.Proofs.Ytpbbechgpgnpbaa.GoP Go.Proofs.Ytpbbechgpgnpbaa.QBase Go.Proofs.Ytpbbechgpgnpbaa.QLoop Go.Proofs.Ytpbbechgpgnpbaa.PShade

theorem toOne (s : Shade) : GlToShade.P s = some s := by cases s; rfl
theorem eqOne (s : Shade) : GlEqShade.P s s = some true := by
  obtain ⟨x0, x1, x2, x3, x4⟩ := s
  simp [GlEqShade.P, unShade, letK, joinK, appK, iteK_if]
theorem toS (l : List Shade) (hl : l.length ≤ 1048576) : GlToShadeS.P l = some l := by
  simp only [GlToShadeS.P, letK]
  rw [guardK_pos (by omega)]
  refine cnt_is l (fun k s => s = l.take k ++ List.replicate (l.length - k) (Shade.mk ByteArray.empty 0 0 0 0)) ?_ ?_ _ (by simp)
  · intro k s nx hk hI hn
    obtain ⟨x, hx, hi⟩ := at_lt (l := l) (k := k) hk
    have hlen : s.length = l.length := by rw [hI]; simp; omega
    obtain ⟨z, hz, hj⟩ := at_lt (l := s) (k := k) (by omega)
    simp only [GlToShadeS.l0, hi, hj, toOne, Option.bind_some, unShade, letK, appK]
    refine hn _ ?_
    rw [hI, take_next hx, List.set_append_right _ _ (by simp; omega)]
    have hr : l.length - k = (l.length - (k + 1)) + 1 := by omega
    rw [hr, List.replicate_succ, List.append_assoc]
    simp [show k - min k l.length = 0 by omega]
  · intro s hI
    rw [hI]; simp [GlToShadeS.e0, letK]
theorem eqS (l : List Shade) : GlEqShadeS.P l l = some true := by
  simp only [GlEqShadeS.P, letK, iteK_if]
  rw [if_neg (by simp)]
  refine cnt_is true (fun _ _ => True) ?_ (fun s _ => rfl) () trivial
  intro k s nx hk _ hn
  obtain ⟨x, hx, hi⟩ := at_lt (l := l) (k := k) hk
  simp only [GlEqShadeS.l0, hi, Option.bind_some, unShade, eqOne, letK, appK, iteK_if]
  exact hn () trivial
theorem fits_max {s : Shade} (h : s.fits) : s.name.size ≤ 9223372036854775807 := by
  obtain ⟨x0, x1, x2, x3, x4⟩ := s
  obtain ⟨hx0, hx1, hx2, hx3, hx4⟩ := h
  unfold maxLen at hx0
  exact hx0
theorem szOne (s : Shade) (left : Int) (h : s.fits) (h0 : 0 ≤ left) (h1 : left ≤ 1048576) : ∃ v, GlSzShade.P s left = some v ∧ v ≤ left := by
  have hm := fits_max h
  simp only [GlSzShade.P, unShade, letK, iteK_if]
  rw [wrap_in (x := left - (s.name.size : Int)) (by omega) (by omega)]
  by_cases hd0 : left - (s.name.size : Int) < 0
  · exact ⟨-1, by rw [if_pos (by simpa using hd0)], by omega⟩
  rw [if_neg (by simpa using hd0)]
  exact ⟨_, rfl, by omega⟩
theorem szS (l : List Shade) (hf : ∀ s ∈ l, s.fits) (hl : l.length ≤ 9223372036854775807) : ∃ v, GlSzShadeS.P l 1048576 = some v ∧ (0 ≤ v → l.length ≤ 1048576) := by
  simp only [GlSzShadeS.P, letK, iteK_if]
  rw [wrap_in (by omega) (by omega)]
  by_cases h : (1048576 : Int) - (l.length : Int) < 0
  · exact ⟨-1, by rw [if_pos (by simp; omega)], by omega⟩
  · rw [if_neg (by simp; omega)]
    refine cnt_ex (n := l.length) (Q := fun v => 0 ≤ v → l.length ≤ 1048576) (fun _ (s : Int) => 0 ≤ s ∧ s ≤ 1048576) ?_ ?_ l.length 0 _ (by omega) ⟨by omega, by omega⟩
    · intro k s nx hk hI hn
      obtain ⟨x, hx, hi⟩ := at_lt (l := l) (k := k) hk
      simp only [GlSzShadeS.l0, hi, Option.bind_some, unShade, letK, appK, iteK_if]
      obtain ⟨v, hv, hv1⟩ := szOne x s (hf x (List.mem_of_getElem? hx)) hI.1 hI.2
      have hv' : GlSzShade.P ⟨x.name, x.hue, x.width, x.dark, x.light⟩ s = some v := hv
      rw [hv']
      simp only [Option.bind_some]
      by_cases hb : v < 0
      · rw [if_pos (by simpa using hb)]; exact ⟨-1, by simp, by omega⟩
      · rw [if_neg (by simpa using hb)]
        exact hn _ ⟨by omega, by omega⟩
    · intro s hI; exact ⟨s, rfl, fun _ => by omega⟩
end Go.Proofs.Ytpbbechgpgnpbaa.QHShadeE

/- Chapter 7: hues and shades: the plain functions of the program and of the reference agree, and the laws answer true. (QL7Certain) No condition but those of each theorem. -/
namespace Go.Proofs.Ytpbbechgpgnpbaa.QL7Certain
set_option linter.unusedVariables false
set_option linter.unusedSimpArgs false
open Go.RowKit
open Go.Proofs.Ytpbbechgpgnpbaa.GoP Go.Proofs.Ytpbbechgpgnpbaa.PlainStamp Go.Proofs.Ytpbbechgpgnpbaa.QBase Go.Proofs.Ytpbbechgpgnpbaa.Q7Certain Go.Proofs.Ytpbbechgpgnpbaa.Q7List Go.Proofs.Ytpbbechgpgnpbaa.QLoop Go.Proofs.Ytpbbechgpgnpbaa.PShade Go.Proofs.Ytpbbechgpgnpbaa.QHShadeE

theorem law_certain (l : List Shade) (name : ByteArray) (light : Int) (hf : ∀ s ∈ l, s.fits) (hl : l.length ≤ 9223372036854775807) : GlFnExactCertainHues.P l name light = some true := by
  obtain ⟨v, hv, hn⟩ := szS l hf hl
  simp only [GlFnExactCertainHues.P, hv, Option.bind_some, letK, iteK_if]
  by_cases hz : (1048576 : Int) < (name.size : Int)
  · rw [if_pos (by simpa using hz)]
  · rw [if_neg (by simpa using hz)]
    by_cases hb : v < 0
    · rw [if_pos (by simp; omega)]
    · rw [if_neg (by simp; omega)]
      obtain ⟨⟨a, b⟩, hr⟩ : ∃ x, x = certRes l name light := ⟨_, rfl⟩
      simp [toS l (hn (by omega)), cert_spec l name light hf hl, cert_impl l name light hl, ← hr, bind2, joinK, appK, iteK_if, eqS]
end Go.Proofs.Ytpbbechgpgnpbaa.QL7Certain

