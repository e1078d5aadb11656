/- The texts on which the proof of FnTeeth stands, one behind the other (3 of 3). No condition of their own. -/
import Derived.Test.YtbpjhmhnicfdfaaFnTeethP2
/- FnTeeth as a plain function answers true. (Q5FnTeeth) No condition but those of each theorem. -/
namespace Go.Proofs.Ytbpjhmhnicfdfaa.Q5FnTeeth
set_option linter.unusedVariables false
set_option linter.unusedSimpArgs false
open Go.RowKit
open Go.Proofs.Ytbpjhmhnicfdfaa.GoP Go.Proofs.Ytbpjhmhnicfdfaa.PlainStamp Go.Proofs.Ytbpjhmhnicfdfaa.QBase Go.Proofs.Ytbpjhmhnicfdfaa.Q5Draws Go.Proofs.Ytbpjhmhnicfdfaa.Q5GaugeOf Go.Proofs.Ytbpjhmhnicfdfaa.Q5Even Go.Proofs.Ytbpjhmhnicfdfaa.Q5Miss Go.Proofs.Ytbpjhmhnicfdfaa.Q5Pair Go.Proofs.Ytbpjhmhnicfdfaa.Q5On Go.Proofs.Ytbpjhmhnicfdfaa.Q5Holes Go.Proofs.Ytbpjhmhnicfdfaa.Q5Gauge Go.Proofs.Ytbpjhmhnicfdfaa.Q5Distances Go.Proofs.Ytbpjhmhnicfdfaa.Q5Dist Go.Proofs.Ytbpjhmhnicfdfaa.QUp Go.Proofs.Ytbpjhmhnicfdfaa.QLoop Go.Proofs.Ytbpjhmhnicfdfaa.QAll

theorem rise_of {l : List Int} {lo hi : Int} (h1 : ∀ x ∈ l, lo ≤ x ∧ x ≤ hi) (h2 : ∀ (k : Nat) x y, l[k]? = some x → l[k + 1]? = some y → x < y) : rise lo hi l = true := by
  unfold rise upTo
  rw [List.all_eq_true]
  intro k hk
  have hk' := List.mem_range.1 hk
  obtain ⟨x, hx, _⟩ := at_lt (l := l) (k := k) hk'
  have hok : inB x lo hi = true := by have := h1 x (List.mem_of_getElem? hx); exact inB_yes this.1 this.2
  by_cases h0 : k = 0
  · subst h0; exact upAt_first (ok := fun n => inB n lo hi) hx hok
  · obtain ⟨y, hy, _⟩ := at_lt (l := l) (k := k - 1) (by omega)
    rw [upAt_next (ok := fun n => inB n lo hi) hx hy (by omega) hok]
    have := h2 (k - 1) y x hy (by rw [show k - 1 + 1 = k by omega]; exact hx)
    simpa using this
def up1 (l : List Int) : List Int := l.map (fun x => x + 1)
theorem up1_at {l : List Int} {k : Nat} {x : Int} (h : (up1 l)[k]? = some x) : ∃ y, l[k]? = some y ∧ x = y + 1 := by
  unfold up1 at h
  rw [List.getElem?_map] at h
  cases hy : l[k]? with
  | none => rw [hy] at h; simp at h
  | some y => rw [hy] at h; exact ⟨y, rfl, by simpa using h.symm⟩
theorem up1_of {l : List Int} {k : Nat} {x : Int} (h : l[k]? = some x) : (up1 l)[k]? = some (x + 1) := by unfold up1; rw [List.getElem?_map, h]; rfl
theorem up1_holes {l : List Int} (h : holesB l = true) {z : Int} (hz : l[l.length - 1]? = some z) (hz9 : z < 9999) : holesB (up1 l) = true := by
  have hn := holes_len h
  have hl : (up1 l).length = l.length := by simp [up1]
  unfold holesB
  rw [Bool.and_eq_true]
  refine ⟨by rw [hl]; exact inB_yes (by omega) (by omega), rise_of ?_ ?_⟩
  · intro x hx
    obtain ⟨k, hk⟩ := List.getElem?_of_mem hx
    obtain ⟨y, hy, rfl⟩ := up1_at hk
    have h1 := holes_in h hy
    have hk2 := (List.getElem?_eq_some_iff.1 hy).1
    by_cases he : k = l.length - 1
    · subst he
      obtain rfl := Option.some.inj (hy.symm.trans hz)
      omega
    · have := holes_up h (i := k) (j := l.length - 1) (by omega) hy hz
      omega
  · intro k x y hx hy
    obtain ⟨x', hx', rfl⟩ := up1_at hx
    obtain ⟨y', hy', rfl⟩ := up1_at hy
    have := holes_up h (i := k) (j := k + 1) (by omega) hx' hy'
    omega
theorem gauge_val {l : List Int} (h : holesB l = true) {x y : Int} (hx : l[0]? = some x) (hy : l[l.length - 1]? = some y) : GsGaugeOf.P l = some (if inB (IntKind.i64.wrap (Int.tdiv (IntKind.i64.wrap (200000 * ((l.length - 1 : Nat) : Int))) (y - x))) 500 2000 = true then (IntKind.i64.wrap (Int.tdiv (IntKind.i64.wrap (200000 * ((l.length - 1 : Nat) : Int))) (y - x)), true) else (0, false)) := by
  have hn := holes_len h
  have hlt := holes_up h (i := 0) (j := l.length - 1) (by omega) hx hy
  have h1 := holes_in h hx
  have h2 := holes_in h hy
  have hx0 : idx l 0 = some x := by rw [show (0 : Int) = ((0 : Nat) : Int) from rfl, idx_nat, hx]
  have hyi : idx l ((l.length - 1 : Nat) : Int) = some y := by rw [idx_nat, hy]
  simp only [GsGaugeOf.P, l5Holes_eq l (by omega), h, l5Gauge_eq, Option.bind_some, letK, iteK_if, Bool.not_true, Bool.false_eq_true, if_false]
  rw [wrap_in (x := (l.length : Int) - 1) (by omega) (by omega), show (l.length : Int) - 1 = ((l.length - 1 : Nat) : Int) by omega, hyi]
  simp only [Option.bind_some, hx0]
  rw [wrap_in (x := y - x) (by omega) (by omega), guardK_pos (by omega)]
  cases inB (IntKind.i64.wrap (Int.tdiv (IntKind.i64.wrap (200000 * ((l.length - 1 : Nat) : Int))) (y - x))) 500 2000 <;> simp
theorem up1_gauge {l : List Int} (h : holesB l = true) {z : Int} (hz : l[l.length - 1]? = some z) (hz9 : z < 9999) : GsGaugeOf.P (up1 l) = GsGaugeOf.P l := by
  have hn := holes_len h
  have hl : (up1 l).length = l.length := by simp [up1]
  obtain ⟨x, hx, _⟩ := at_lt (l := l) (k := 0) (by omega)
  rw [gauge_val h hx hz, gauge_val (up1_holes h hz hz9) (up1_of hx) (by rw [hl]; exact up1_of hz), hl, show z + 1 - (x + 1) = z - x by omega]
theorem up1_pair {l : List Int} (h : holesB l = true) {z : Int} (hz : l[l.length - 1]? = some z) (hz9 : z < 9999) : pairRes l (up1 l) 0 = (true, true) := by
  have hn := holes_len h
  have hl : (l.length == (up1 l).length) = true := by simp [up1]
  unfold pairRes
  rw [h, up1_holes h hz hz9, hl]
  have e : allN l.length (pairAt l (up1 l) 0) = true := by
    rw [allN_iff]
    intro i hi
    obtain ⟨x, hx, _⟩ := at_lt (l := l) (k := i) hi
    obtain ⟨x0, hx0, _⟩ := at_lt (l := l) (k := 0) (by omega)
    unfold pairAt
    rw [getD_is hx, getD_is hx0, getD_is (up1_of hx), getD_is (up1_of hx0)]
    exact inB_yes (by omega) (by omega)
  rw [e]
  have e0 : inB 0 0 50 = true := inB_yes (by omega) (by omega)
  simp [e0]
theorem pair_sym (a b : List Int) (o : Int) : pairRes b a o = pairRes a b o := by
  unfold pairRes
  have e1 : (holesB b && holesB a && (b.length == a.length) && inB o 0 50) = (holesB a && holesB b && (a.length == b.length) && inB o 0 50) := by
    have : (b.length == a.length) = (a.length == b.length) := by rw [Bool.eq_iff_iff, beq_iff_eq, beq_iff_eq]; exact ⟨Eq.symm, Eq.symm⟩
    rw [this]; cases holesB a <;> cases holesB b <;> simp
  rw [e1]
  by_cases hc : (holesB a && holesB b && (a.length == b.length) && inB o 0 50) = true
  · rw [if_pos hc, if_pos hc]
    simp only [Bool.and_eq_true, beq_iff_eq] at hc
    have e2 : allN b.length (pairAt b a o) = allN a.length (pairAt a b o) := by
      rw [hc.1.2]
      congr 1
      funext k
      unfold pairAt
      rw [Bool.eq_iff_iff]
      constructor
      · intro h; have := inB_of h; exact inB_yes (by omega) (by omega)
      · intro h; have := inB_of h; exact inB_yes (by omega) (by omega)
    rw [e2]
  · rw [if_neg hc, if_neg hc]
theorem j0_yes {tapes : List Int → GoC.Tape} (ht : GoC.Tells tapes) (code : List Int) {fuel : Nat} (hf : 1048577 ≤ fuel) : GlFnTeeth.j0 code fuel tapes () = some true := by
  obtain ⟨a, b, o, e1, ha, hb⟩ := drawPair_ok ht code fuel hf
  obtain ⟨l, g, e2, hl⟩ := drawMiss_ok ht code fuel hf
  obtain ⟨n, g2, e3⟩ := drawOn_ok ht code
  obtain ⟨u, v, e4⟩ := on_some n g2
  have hp := pair_sym a b o
  obtain ⟨⟨p, q⟩, hr⟩ : ∃ x, x = pairRes a b o := ⟨_, rfl⟩
  have hm : 0 ≤ (missRes l g).1 := by
    unfold missRes
    split
    · rename_i h
      simp only [Bool.and_eq_true] at h
      exact (missSum_in h.1 (inB_of h.2) _ (Nat.le_refl _)).1
    · simp
  obtain ⟨⟨s, t⟩, hs⟩ : ∃ x, x = missRes l g := ⟨_, rfl⟩
  rw [← hs] at hm
  dsimp only at hm
  have hm2 : ¬ s < 0 := by omega
  simp only [GlFnTeeth.j0, e1, bind3_some, pair_impl a b o (by omega) (by omega), pair_spec a b o (by omega) (by omega) hf, pair_impl b a o (by omega) (by omega), hp, ← hr, bind2_some, letK, joinK, appK, iteK_if, e2, miss_impl l g (by omega) hf, miss_spec l g (by omega) hf, ← hs, e3, on_same, e4]
  simp [hm2]
theorem law_teeth {tapes : List Int → GoC.Tape} (ht : GoC.Tells tapes) (code : List Int) {fuel : Nat} (hf : 1048577 ≤ fuel) : GlFnTeeth.P fuel tapes code = some true := by
  obtain ⟨l, e1, hl⟩ := drawGauge_ok ht code fuel hf
  obtain ⟨g, ok, e2⟩ := gauge_some l (by omega)
  have hj := j0_yes ht code hf
  simp only [GlFnTeeth.P, GlRBig.P, Option.bind_some, letK, iteK_if]
  by_cases hbig : (65536 : Int) < (code.length : Int)
  · simp [hbig]
  · have hb0 : decide ((65536 : Int) < (code.length : Int)) = false := decide_eq_false hbig
    simp only [hb0, Bool.false_eq_true, if_false, e1, Option.bind_some, gauge_same l (by omega), e2, bind2_some, even_impl l (by omega) hf, even_spec l (by omega) hf, joinK, appK]
    cases h : holesB l with
    | false =>
      have he : evenRes l = (false, false) := by unfold evenRes; rw [h]; rfl
      simp [he, bind2, hj]
    | true =>
      have hn := holes_len h
      obtain ⟨z, hz, hzi⟩ := at_lt (l := l) (k := l.length - 1) (by omega)
      obtain ⟨ev, he⟩ : ∃ ev, evenRes l = (ev, true) := by unfold evenRes; rw [h]; exact ⟨_, rfl⟩
      simp only [he, bind2_some, bne_self_eq_false, beq_self_eq_true, Bool.not_true, Bool.false_eq_true, if_false, if_true]
      rw [wrap_in (x := (l.length : Int) - 1) (by omega) (by omega), show (l.length : Int) - 1 = ((l.length - 1 : Nat) : Int) by omega, hzi]
      simp only [Option.bind_some]
      by_cases hz9 : z < 9999
      · rw [if_pos (by simpa using hz9)]
        refine cnt_is true (fun k s => s = (up1 l).take k) ?_ ?_ _ rfl
        · rintro k s nx hk rfl hnx
          obtain ⟨x, hx, hxi⟩ := at_lt (l := l) (k := k) hk
          have hb := holes_in h hx
          simp only [GlFnTeeth.l0, letK, hxi, Option.bind_some, appK]
          rw [wrap_in (x := x + 1) (by omega) (by omega), guardK_pos (by rw [List.length_take]; omega)]
          exact hnx _ (by rw [take_next (up1_of hx)])
        · rintro s rfl
          have e : (up1 l).take l.length = up1 l := List.take_of_length_le (by simp [up1])
          have hlu : (up1 l).length = l.length := by simp [up1]
          simp only [GlFnTeeth.e0, letK, e, pair_impl l (up1 l) 0 (by omega) (by omega), up1_pair h hz hz9, gauge_same (up1 l) (by omega), up1_gauge h hz hz9, e2, bind2_some, joinK, appK, iteK_if]
          simp [hj]
      · rw [if_neg (by simpa using hz9)]
        exact hj
end Go.Proofs.Ytbpjhmhnicfdfaa.Q5FnTeeth

