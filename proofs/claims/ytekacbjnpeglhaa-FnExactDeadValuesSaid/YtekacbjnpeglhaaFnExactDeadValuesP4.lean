/- The texts on which the proof of FnExactDeadValues stands, one behind the other (4 of 4). No condition of their own. -/
import Derived.Test.YtekacbjnpeglhaaFnExactDeadValuesP3
import Derived.Test.YtekacbjnpeglhaaFnExactDeadValuesP1
import Derived.Test.YtekacbjnpeglhaaFnExactDeadValuesP2
import Derived.Test.YtekacbjnpeglhaaChecked
import Derived.WalkKit
import Derived.WalkSpells
import Derived.WalkLawsBesides
import Derived.BigQuiet
import Derived.OwnWalk
import Derived.Deep.LoopGhost
import Derived.Deep.QuietTactic
import Derived.IntWalk
import Derived.Lib.QuietBelow
import Derived.SliceStrings
import Derived.ChangeSlices
/- Chapter 6: kinds that are counted: the program's list of them and the reference's sums. (Q6With) No condition but those of each theorem. -/
namespace Go.Proofs.Ytekacbjnpeglhaa.Q6With
set_option linter.unusedVariables false
set_option linter.unusedSimpArgs false
open Go.RowKit
open Go.Proofs.Ytekacbjnpeglhaa.GoP Go.Proofs.Ytekacbjnpeglhaa.PlainStamp Go.Proofs.Ytekacbjnpeglhaa.QBase Go.Proofs.Ytekacbjnpeglhaa.Q6List Go.Proofs.Ytekacbjnpeglhaa.Q6Spec Go.Proofs.Ytekacbjnpeglhaa.Q6First Go.Proofs.Ytekacbjnpeglhaa.Q6Num Go.Proofs.Ytekacbjnpeglhaa.Q6Kind Go.Proofs.Ytekacbjnpeglhaa.Q6Tab Go.Proofs.Ytekacbjnpeglhaa.Q6Ban Go.Proofs.Ytekacbjnpeglhaa.QLoop Go.Proofs.Ytekacbjnpeglhaa.QAll Go.Proofs.Ytekacbjnpeglhaa.PBan

def qv (a v : Int) (k : List Int) : Bool := decide (a < 0) || (k[a.toNat]?.getD 0 == v)
def cntTo (s : List Int) (l : List Ban) (a v : Int) (m : Nat) : Nat := ((List.range m).filter fun n => qv a v (kA s n) && free l (kA s n)).length
theorem cntTo_succ (s : List Int) (l : List Ban) (a v : Int) (m : Nat) : cntTo s l a v (m + 1) = if (qv a v (kA s m) && free l (kA s m)) = true then cntTo s l a v m + 1 else cntTo s l a v m := by
  unfold cntTo
  rw [List.range_succ, List.filter_append, List.length_append]
  cases h : (qv a v (kA s m) && free l (kA s m)) <;> simp [List.filter, h]
theorem cntTo_le (s : List Int) (l : List Ban) (a v : Int) (m : Nat) : cntTo s l a v m ≤ m := by
  unfold cntTo
  have := List.length_filter_le (fun n => qv a v (kA s n) && free l (kA s n)) (List.range m)
  rw [List.length_range] at this
  exact this
theorem with_eq {s : List Int} {l : List Ban} (ht : okT s l = true) (a v : Int) (ha : a < 0 ∨ ∃ i : Nat, a = (i : Int) ∧ i < s.length) (fuel : Nat) (hf : 3200 ≤ fuel) : GsL6With.P fuel s l a v = some ((cntTo s l a v (prod s).toNat : Nat) : Int) := by
  obtain ⟨t1, t2, t3, t4, t5⟩ := okT_of ht
  have hP := prod_pos (pos_of t4)
  have hsm := prod_small' t4 t2
  simp only [GsL6With.P]
  obtain ⟨r, hr, rfl⟩ := lp_ex (f := GsL6With.l0 s l a v fuel) (fin := GsL6With.e0) (Q := fun r => r = ((cntTo s l a v (prod s).toNat : Nat) : Int)) (n := (prod s).toNat)
    (fun j (st : Int × Int) => st.2 = (j : Int) ∧ st.1 = ((cntTo s l a v j : Nat) : Int)) (by
    rintro j ⟨x, y⟩ nx hj ⟨h1, h2⟩ hn
    dsimp only at h1 h2
    subst h1; subst h2
    have hlt : (j : Int) < prod s := by omega
    have hok := kA_spec t4 t2 hlt
    have hle := cntTo_le s l a v j
    have hs' := cntTo_succ s l a v j
    have hc : decide ((j : Int) < prod s) = true := by simpa using hlt
    simp only [GsL6With.l0, unp2, letK, l6All_eq t4 t2 l fuel (by omega), Option.bind_some, hc, iteK_if, if_true, l6At_is t4 t2 l hlt fuel (by omega), l6Free_eq ht (okK_len hok.1) fuel (by omega), joinK, appK]
    have fin : ∀ b, (qv a v (kA s j) && free l (kA s j)) = b → ∃ r, (if b = true then nx (IntKind.i64.wrap (((cntTo s l a v j : Nat) : Int) + 1), IntKind.i64.wrap ((j : Int) + 1)) else nx (((cntTo s l a v j : Nat) : Int), IntKind.i64.wrap ((j : Int) + 1))) = some r ∧ r = ((cntTo s l a v (prod s).toNat : Nat) : Int) := by
      intro b hb
      rw [hb] at hs'
      cases b with
      | true =>
        rw [if_pos rfl] at hs' ⊢
        rw [wrap_in (x := ((cntTo s l a v j : Nat) : Int) + 1) (by omega) (by omega), next_i (by omega)]
        exact hn _ ⟨rfl, by dsimp only; rw [hs']; omega⟩
      | false =>
        rw [if_neg (by simp)] at hs' ⊢
        rw [next_i (by omega)]
        exact hn _ ⟨rfl, by dsimp only; rw [hs']⟩
    rcases ha with ha | ⟨i, rfl, hi⟩
    · have hq : qv a v (kA s j) = true := by unfold qv; simp [ha]
      have := fin (free l (kA s j)) (by rw [hq]; simp)
      simpa [ha] using this
    · obtain ⟨x, hx, hxi⟩ := at_lt (l := kA s j) (k := i) (by rw [okK_len hok.1]; exact hi)
      have hq : qv (i : Int) v (kA s j) = (x == v) := by unfold qv; rw [Int.toNat_natCast, hx]; simp; omega
      have := fin ((x == v) && free l (kA s j)) (by rw [hq])
      have hn0 : ¬ ((i : Int) < 0) := by omega
      simp only [hn0, decide_false, Bool.false_eq_true, if_false, hxi, Option.bind_some]
      cases hxv : (x == v) with
      | true => rw [hxv] at this; simpa using this
      | false => rw [hxv] at this; simpa using this) (by
    rintro ⟨x, y⟩ nx ⟨h1, h2⟩
    dsimp only at h1 h2
    subst h1; subst h2
    have hc : decide ((((prod s).toNat : Nat) : Int) < prod s) = false := by simp; omega
    simp only [GsL6With.l0, unp2, letK, l6All_eq t4 t2 l fuel (by omega), Option.bind_some, hc, iteK_if, Bool.false_eq_true, if_false, appK, GsL6With.e0]
    exact ⟨_, rfl, rfl⟩) fuel 0 (0, 0) (by omega) (by omega) ⟨rfl, by simp [cntTo]⟩
  exact hr
theorem all_count (s : List Int) (l : List Ban) : cntTo s l (-1) 0 (prod s).toNat = (all s l).length := by
  unfold cntTo all upto
  rw [List.length_map]
  simp [qv]
end Go.Proofs.Ytekacbjnpeglhaa.Q6With

/- Chapter 6: kinds that are counted: the program's list of them and the reference's sums. (Q6Tally) No condition but those of each theorem. -/
namespace Go.Proofs.Ytekacbjnpeglhaa.Q6Tally
set_option linter.unusedVariables false
set_option linter.unusedSimpArgs false
open Go.RowKit
open Go.Proofs.Ytekacbjnpeglhaa.GoP Go.Proofs.Ytekacbjnpeglhaa.PlainStamp Go.Proofs.Ytekacbjnpeglhaa.QBase Go.Proofs.Ytekacbjnpeglhaa.Q6With Go.Proofs.Ytekacbjnpeglhaa.Q6List Go.Proofs.Ytekacbjnpeglhaa.Q6Num Go.Proofs.Ytekacbjnpeglhaa.Q6Kind Go.Proofs.Ytekacbjnpeglhaa.Q6Tab Go.Proofs.Ytekacbjnpeglhaa.Q6Ban Go.Proofs.Ytekacbjnpeglhaa.QLoop Go.Proofs.Ytekacbjnpeglhaa.QAll Go.Proofs.Ytekacbjnpeglhaa.PBan

/-- the table c reads g -/
def Tally (s : List Int) (c : List (List Int)) (n : Nat) (g : Nat → Nat → Int) : Prop := c.length = n ∧ ∀ (i : Nat) (z : Int), i < n → s[i]? = some z → ∃ row, c[i]? = some row ∧ ∀ v : Nat, (v : Int) < z → row[v]? = some (g i v)
theorem tally_set {s : List Int} {c : List (List Int)} {n : Nat} {g g' : Nat → Nat → Int} (h : Tally s c n g) {i v : Nat} {row : List Int} (hr : c[i]? = some row) {x : Int} (hv : v < row.length)
    (h1 : g' i v = x) (h2 : ∀ i' v', ¬ (i' = i ∧ v' = v) → g' i' v' = g i' v') : Tally s (c.set i (row.set v x)) n g' := by
  refine ⟨by rw [List.length_set]; exact h.1, fun i' z hi hz => ?_⟩
  obtain ⟨r, e1, e2⟩ := h.2 i' z hi hz
  have hic := (List.getElem?_eq_some_iff.1 hr).1
  by_cases he : i' = i
  · subst he
    obtain rfl := Option.some.inj (hr.symm.trans e1)
    refine ⟨_, by rw [List.getElem?_set_self hic], fun v' hv' => ?_⟩
    by_cases he2 : v' = v
    · subst he2; rw [List.getElem?_set_self hv, h1]
    · rw [List.getElem?_set_ne (by omega), e2 v' hv', h2 i' v' (by omega)]
  · exact ⟨r, by rw [List.getElem?_set_ne (by omega)]; exact e1, fun v' hv' => by rw [e2 v' hv', h2 i' v' (by omega)]⟩
theorem tally_congr {s : List Int} {c : List (List Int)} {n : Nat} {g g' : Nat → Nat → Int} (h : Tally s c n g) (e : ∀ i v, i < n → g' i v = g i v) : Tally s c n g' :=
  ⟨h.1, fun i z hi hz => by obtain ⟨r, e1, e2⟩ := h.2 i z hi hz; exact ⟨r, e1, fun v hv => by rw [e2 v hv, e i v hi]⟩⟩
def tl (L : List (List Int)) (i v : Nat) : Int := ((L.filter fun k => k[i]? == some (v : Int)).length : Int)
theorem tl_le (L : List (List Int)) (i v : Nat) : tl L i v ≤ L.length := by
  unfold tl
  have := List.length_filter_le (fun k : List Int => k[i]? == some (v : Int)) L
  omega
theorem tl_snoc (L : List (List Int)) (k : List Int) (i v : Nat) : tl (L ++ [k]) i v = tl L i v + if k[i]? == some (v : Int) then 1 else 0 := by
  unfold tl
  rw [List.filter_append, List.length_append]
  cases h : (k[i]? == some (v : Int)) <;> simp [List.filter, h]
theorem counts_eq {s : List Int} {l : List Ban} (ht : okT s l = true) (fuel : Nat) (hf : 3200 ≤ fuel) : ∃ c, GiCountsByValue.P fuel s l = some c ∧ Tally s c s.length (tl (all s l)) := by
  obtain ⟨t1, t2, t3, t4, t5⟩ := okT_of ht
  have hP := prod_pos (pos_of t4)
  have hsm := prod_small' t4 t2
  have hL : (all s l).length ≤ 3125 := by have := upto_len s l (prod s).toNat; unfold all; omega
  have hLk : ∀ k ∈ all s l, okK s k = true := by
    intro k hk
    unfold all upto at hk
    obtain ⟨n, hn, rfl⟩ := List.mem_map.1 hk
    have := (List.mem_filter.1 hn).1
    exact (kA_spec t4 t2 (n := n) (by have := List.mem_range.1 this; omega)).1
  simp only [GiCountsByValue.P]
  refine cnt_ex (n := s.length) (Q := fun c => Tally s c s.length (tl (all s l))) (fun j (c : List (List Int)) => Tally s c j (fun _ _ => 0)) ?_ ?_ s.length 0 [] (by omega) ⟨rfl, fun i z hi _ => by omega⟩
  · intro j c nx hj hI hn
    obtain ⟨z, hz, hzi⟩ := at_lt (l := s) (k := j) hj
    have hz5 := okS_at t4 hz
    simp only [GiCountsByValue.l0, letK, hzi, Option.bind_some, appK]
    rw [guardK_pos (by omega), guardK_pos (by rw [hI.1]; omega)]
    refine hn _ ⟨by rw [List.length_append, hI.1]; rfl, fun i z' hi hz' => ?_⟩
    by_cases he : i < j
    · obtain ⟨row, e1, e2⟩ := hI.2 i z' he hz'
      exact ⟨row, by rw [List.getElem?_append_left (by rw [hI.1]; exact he)]; exact e1, e2⟩
    · obtain rfl : i = j := by omega
      obtain rfl := Option.some.inj (hz.symm.trans hz')
      refine ⟨List.replicate z.toNat 0, by rw [List.getElem?_append_right (by rw [hI.1]; omega), hI.1, Nat.sub_self]; rfl, fun v hv => ?_⟩
      rw [List.getElem?_replicate, if_pos (by omega)]
  · intro c hI
    simp only [GiCountsByValue.e0, letK, kinds_eq ht fuel hf, Option.bind_some]
    refine cnt_ex (n := (all s l).length) (Q := fun c => Tally s c s.length (tl (all s l))) (fun j (c : List (List Int)) => Tally s c s.length (tl ((all s l).take j))) ?_ ?_ (all s l).length 0 c (by omega) (by rw [List.take_zero]; exact tally_congr hI (fun i v _ => by simp [tl]))
    · intro j c nx hj hI hn
      obtain ⟨k, hk, hki⟩ := at_lt (l := all s l) (k := j) hj
      have hok := hLk k (List.mem_of_getElem? hk)
      have hlen := okK_len hok
      simp only [GiCountsByValue.l1, letK, hki, Option.bind_some]
      refine cnt_ex (n := k.length) (Q := fun c => Tally s c s.length (tl (all s l))) (fun p (c : List (List Int)) => Tally s c s.length (fun i v => tl ((all s l).take j) i v + if (decide (i < p) && k[i]? == some (v : Int)) = true then 1 else 0)) ?_ ?_ k.length 0 c (by omega) (by simpa using hI)
      · intro p c nx2 hp hI2 hn2
        obtain ⟨v, hv, hvi⟩ := at_lt (l := k) (k := p) hp
        obtain ⟨z, hz, _⟩ := at_lt (l := s) (k := p) (by omega)
        have hvz := okK_at hok hz hv
        obtain ⟨V, rfl⟩ : ∃ V : Nat, v = (V : Int) := ⟨v.toNat, by omega⟩
        obtain ⟨row, e1, e2⟩ := hI2.2 p z (by omega) hz
        have e3 := e2 V hvz.2
        have hVr := (List.getElem?_eq_some_iff.1 e3).1
        have e4 : idx c (p : Int) = some row := by rw [idx_nat, e1]
        have e5 : idx row (V : Int) = some (tl ((all s l).take j) p V) := by rw [idx_nat, e3]; simp
        have hb := tl_le ((all s l).take j) p V
        have hb2 : 0 ≤ tl ((all s l).take j) p V := by unfold tl; omega
        rw [List.length_take] at hb
        simp only [GiCountsByValue.l2, letK, hvi, e4, e5, Option.bind_some, appK, Int.toNat_natCast]
        rw [wrap_in (by omega) (by omega)]
        refine hn2 _ (tally_set hI2 e1 hVr ?_ ?_)
        · simp [hv]
        · intro i' v' hne
          congr 1
          by_cases he : i' = p
          · subst he
            have hvv : ¬ v' = V := fun h => hne ⟨rfl, h⟩
            have : (k[i']? == some (v' : Int)) = false := by rw [hv]; simp; omega
            rw [this]; simp
          · have : decide (i' < p + 1) = decide (i' < p) := by rw [decide_eq_decide]; omega
            rw [this]
      · intro c hI2
        simp only [GiCountsByValue.e2, letK, appK]
        refine hn _ (tally_congr hI2 fun i v hi => ?_)
        rw [take_next hk, tl_snoc]
        have : decide (i < k.length) = true := by simp; omega
        rw [this, Bool.true_and]
    · intro c hI
      rw [List.take_length] at hI
      exact ⟨_, rfl, hI⟩
end Go.Proofs.Ytekacbjnpeglhaa.Q6Tally

/- Chapter 6: values that no kind has: the plain functions of the program and of the reference agree, and the law answers true. (Q6Dead) No condition but those of each theorem. -/
namespace Go.Proofs.Ytekacbjnpeglhaa.Q6Dead
set_option linter.unusedVariables false
set_option linter.unusedSimpArgs false
open Go.RowKit
open Go.Proofs.Ytekacbjnpeglhaa.GoP Go.Proofs.Ytekacbjnpeglhaa.PlainStamp Go.Proofs.Ytekacbjnpeglhaa.QBase Go.Proofs.Ytekacbjnpeglhaa.Q6Tally Go.Proofs.Ytekacbjnpeglhaa.Q6With Go.Proofs.Ytekacbjnpeglhaa.Q6List Go.Proofs.Ytekacbjnpeglhaa.Q6Num Go.Proofs.Ytekacbjnpeglhaa.Q6Kind Go.Proofs.Ytekacbjnpeglhaa.Q6Tab Go.Proofs.Ytekacbjnpeglhaa.Q6Ban Go.Proofs.Ytekacbjnpeglhaa.QLoop Go.Proofs.Ytekacbjnpeglhaa.QAll Go.Proofs.Ytekacbjnpeglhaa.PBan Go.Proofs.Ytekacbjnpeglhaa.PIntA2

def Lens (s : List Int) (c : List (List Int)) (n : Nat) : Prop := ∀ (i : Nat) (z : Int) (row : List Int), i < n → s[i]? = some z → c[i]? = some row → row.length = z.toNat
theorem counts_eq2 {s : List Int} {l : List Ban} (ht : okT s l = true) (fuel : Nat) (hf : 3200 ≤ fuel) : ∃ c, GiCountsByValue.P fuel s l = some c ∧ (Tally s c s.length (tl (all s l)) ∧ Lens s c s.length) := by
  obtain ⟨t1, t2, t3, t4, t5⟩ := okT_of ht
  have hP := prod_pos (pos_of t4)
  have hsm := prod_small' t4 t2
  have hL : (all s l).length ≤ 3125 := by have := upto_len s l (prod s).toNat; unfold all; omega
  have hLk : ∀ k ∈ all s l, okK s k = true := by
    intro k hk
    unfold all upto at hk
    obtain ⟨n, hn, rfl⟩ := List.mem_map.1 hk
    have := (List.mem_filter.1 hn).1
    exact (kA_spec t4 t2 (n := n) (by have := List.mem_range.1 this; omega)).1
  simp only [GiCountsByValue.P]
  refine cnt_ex (n := s.length) (Q := fun c => Tally s c s.length (tl (all s l)) ∧ Lens s c s.length) (fun j (c : List (List Int)) => Tally s c j (fun _ _ => 0) ∧ Lens s c j) ?_ ?_ s.length 0 [] (by omega) ⟨⟨rfl, fun i z hi _ => by omega⟩, fun i z row hi _ => by omega⟩
  · intro j c nx hj ⟨hI, hJ⟩ hn
    obtain ⟨z, hz, hzi⟩ := at_lt (l := s) (k := j) hj
    have hz5 := okS_at t4 hz
    simp only [GiCountsByValue.l0, letK, hzi, Option.bind_some, appK]
    rw [guardK_pos (by omega), guardK_pos (by rw [hI.1]; omega)]
    refine hn _ ⟨⟨by rw [List.length_append, hI.1]; rfl, fun i z' hi hz' => ?_⟩, fun i z' row hi hz' hr => ?_⟩
    · by_cases he : i < j
      · obtain ⟨row, e1, e2⟩ := hI.2 i z' he hz'
        exact ⟨row, by rw [List.getElem?_append_left (by rw [hI.1]; exact he)]; exact e1, e2⟩
      · obtain rfl : i = j := by omega
        obtain rfl := Option.some.inj (hz.symm.trans hz')
        refine ⟨List.replicate z.toNat 0, by rw [List.getElem?_append_right (by rw [hI.1]; omega), hI.1, Nat.sub_self]; rfl, fun v hv => ?_⟩
        rw [List.getElem?_replicate, if_pos (by omega)]
    · by_cases he : i < j
      · rw [List.getElem?_append_left (by rw [hI.1]; exact he)] at hr
        exact hJ i z' row he hz' hr
      · obtain rfl : i = j := by omega
        obtain rfl := Option.some.inj (hz.symm.trans hz')
        rw [List.getElem?_append_right (by rw [hI.1]; omega), hI.1, Nat.sub_self] at hr
        obtain rfl := Option.some.inj hr
        simp
  · intro c ⟨hI, hJ⟩
    simp only [GiCountsByValue.e0, letK, kinds_eq ht fuel hf, Option.bind_some]
    refine cnt_ex (n := (all s l).length) (Q := fun c => Tally s c s.length (tl (all s l)) ∧ Lens s c s.length) (fun j (c : List (List Int)) => Tally s c s.length (tl ((all s l).take j)) ∧ Lens s c s.length) ?_ ?_ (all s l).length 0 c (by omega) ⟨by rw [List.take_zero]; exact tally_congr hI (fun i v _ => by simp [tl]), hJ⟩
    · intro j c nx hj ⟨hI, hJ⟩ hn
      obtain ⟨k, hk, hki⟩ := at_lt (l := all s l) (k := j) hj
      have hok := hLk k (List.mem_of_getElem? hk)
      have hlen := okK_len hok
      simp only [GiCountsByValue.l1, letK, hki, Option.bind_some]
      refine cnt_ex (n := k.length) (Q := fun c => Tally s c s.length (tl (all s l)) ∧ Lens s c s.length) (fun p (c : List (List Int)) => Tally s c s.length (fun i v => tl ((all s l).take j) i v + if (decide (i < p) && k[i]? == some (v : Int)) = true then 1 else 0) ∧ Lens s c s.length) ?_ ?_ k.length 0 c (by omega) ⟨by simpa using hI, hJ⟩
      · intro p c nx2 hp ⟨hI2, hJ2⟩ hn2
        obtain ⟨v, hv, hvi⟩ := at_lt (l := k) (k := p) hp
        obtain ⟨z, hz, _⟩ := at_lt (l := s) (k := p) (by omega)
        have hvz := okK_at hok hz hv
        obtain ⟨V, rfl⟩ : ∃ V : Nat, v = (V : Int) := ⟨v.toNat, by omega⟩
        obtain ⟨row, e1, e2⟩ := hI2.2 p z (by omega) hz
        have e3 := e2 V hvz.2
        have hVr := (List.getElem?_eq_some_iff.1 e3).1
        have e4 : idx c (p : Int) = some row := by rw [idx_nat, e1]
        have e5 : idx row (V : Int) = some (tl ((all s l).take j) p V) := by rw [idx_nat, e3]; simp
        have hb := tl_le ((all s l).take j) p V
        have hb2 : 0 ≤ tl ((all s l).take j) p V := by unfold tl; omega
        rw [List.length_take] at hb
        simp only [GiCountsByValue.l2, letK, hvi, e4, e5, Option.bind_some, appK, Int.toNat_natCast]
        rw [wrap_in (by omega) (by omega)]
        refine hn2 _ ⟨tally_set hI2 e1 hVr ?_ ?_, fun i' z' r' hi' hz' hr' => ?_⟩
        · simp [hv]
        · intro i' v' hne
          congr 1
          by_cases he : i' = p
          · subst he
            have hvv : ¬ v' = V := fun h => hne ⟨rfl, h⟩
            have : (k[i']? == some (v' : Int)) = false := by rw [hv]; simp; omega
            rw [this]; simp
          · have : decide (i' < p + 1) = decide (i' < p) := by rw [decide_eq_decide]; omega
            rw [this]
        · by_cases he : i' = p
          · subst he
            rw [List.getElem?_set_self (List.getElem?_eq_some_iff.1 e1).1] at hr'
            obtain rfl := Option.some.inj hr'
            rw [List.length_set]
            exact hJ2 i' z' row hi' hz' e1
          · rw [List.getElem?_set_ne (by omega)] at hr'
            exact hJ2 i' z' r' hi' hz' hr'
      · intro c ⟨hI2, hJ2⟩
        simp only [GiCountsByValue.e2, letK, appK]
        refine hn _ ⟨tally_congr hI2 fun i v hi => ?_, hJ2⟩
        rw [take_next hk, tl_snoc]
        have : decide (i < k.length) = true := by simp; omega
        rw [this, Bool.true_and]
    · intro c ⟨hI, hJ⟩
      rw [List.take_length] at hI
      exact ⟨_, rfl, hI, hJ⟩
/-- the dead values of trait i below j -/
def dv (g : Nat → Nat → Int) (i j : Nat) : List IntA2 := ((List.range j).filter fun v : Nat => g i v == 0).map fun v : Nat => (⟨(i : Int), (v : Int)⟩ : IntA2)
theorem dv_succ (g : Nat → Nat → Int) (i j : Nat) : dv g i (j + 1) = if (g i j == 0) = true then dv g i j ++ [⟨(i : Int), (j : Int)⟩] else dv g i j := by
  unfold dv
  rw [List.range_succ, List.filter_append, List.map_append]
  cases h : (g i j == 0) <;> simp [List.filter, h]
theorem dv_len (g : Nat → Nat → Int) (i j : Nat) : (dv g i j).length ≤ j := by
  unfold dv
  rw [List.length_map]
  have := List.length_filter_le (fun v => g i v == 0) (List.range j)
  rw [List.length_range] at this
  exact this
def dvs (s : List Int) (g : Nat → Nat → Int) (n : Nat) : List IntA2 := (List.range n).flatMap fun i => dv g i (s[i]?.getD 0).toNat
theorem dvs_succ (s : List Int) (g : Nat → Nat → Int) (n : Nat) : dvs s g (n + 1) = dvs s g n ++ dv g n (s[n]?.getD 0).toNat := by
  unfold dvs
  rw [List.range_succ, List.flatMap_append]
  simp
theorem dead_impl {s : List Int} {l : List Ban} (ht : okT s l = true) (fuel : Nat) (hf : 3200 ≤ fuel) : GiDeadValues.P fuel s l = some (dvs s (tl (all s l)) s.length, true) := by
  obtain ⟨t1, t2, t3, t4, t5⟩ := okT_of ht
  obtain ⟨c, hc, hT, hJ⟩ := counts_eq2 ht fuel hf
  simp only [GiDeadValues.P, isTable_eq s l (by omega) (by omega), ht, Option.bind_some, letK, iteK_if, Bool.not_true, Bool.false_eq_true, if_false, hc]
  rw [hT.1]
  refine cnt_is _ (fun i o => o = dvs s (tl (all s l)) i ∧ o.length ≤ 5 * i) ?_ ?_ [] ⟨rfl, by simp⟩
  · rintro i o nx hi ⟨h1, h2⟩ hn
    obtain ⟨z, hz, _⟩ := at_lt (l := s) (k := i) hi
    have hz5 := okS_at t4 hz
    obtain ⟨row, e1, e2⟩ := hT.2 i z hi hz
    have e3 := hJ i z row hi hz e1
    have e4 : idx c (i : Int) = some row := by rw [idx_nat, e1]
    simp only [GiDeadValues.l0, letK, e4, Option.bind_some]
    rw [e3]
    refine cnt_is _ (fun j o => o = dvs s (tl (all s l)) i ++ dv (tl (all s l)) i j ∧ o.length ≤ 5 * i + j) ?_ ?_ o ⟨by rw [h1]; simp [dv], by omega⟩
    · rintro j o nx2 hj ⟨g1, g2⟩ hn2
      have e5 : idx row (j : Int) = some (tl (all s l) i j) := by rw [idx_nat, e2 j (by omega)]
      have hd := dv_succ (tl (all s l)) i j
      simp only [GiDeadValues.l1, letK, e5, Option.bind_some, appK, iteK_if]
      cases hb : (tl (all s l) i j == 0) with
      | true =>
        rw [hb, if_pos rfl] at hd
        rw [if_pos rfl, guardK_pos (by omega)]
        exact hn2 _ ⟨by rw [g1, hd, List.append_assoc], by rw [List.length_append]; show o.length + 1 ≤ _; omega⟩
      | false =>
        rw [hb, if_neg (by simp)] at hd
        rw [if_neg (by simp)]
        exact hn2 _ ⟨by rw [g1, hd], by omega⟩
    · rintro o ⟨g1, g2⟩
      simp only [GiDeadValues.e1, letK, appK]
      refine hn _ ⟨?_, by omega⟩
      rw [g1, dvs_succ, hz]
      rfl
  · rintro o ⟨h1, h2⟩
    simp only [GiDeadValues.e0, letK, h1]
end Go.Proofs.Ytekacbjnpeglhaa.Q6Dead

/- Chapter 6: values that no kind has: the plain functions of the program and of the reference agree, and the law answers true. (Q6DeadS) No condition but those of each theorem. -/
namespace Go.Proofs.Ytekacbjnpeglhaa.Q6DeadS
set_option linter.unusedVariables false
set_option linter.unusedSimpArgs false
open Go.RowKit
open Go.Proofs.Ytekacbjnpeglhaa.GoP Go.Proofs.Ytekacbjnpeglhaa.PlainStamp Go.Proofs.Ytekacbjnpeglhaa.QBase Go.Proofs.Ytekacbjnpeglhaa.Q6Dead Go.Proofs.Ytekacbjnpeglhaa.Q6Tally Go.Proofs.Ytekacbjnpeglhaa.Q6With Go.Proofs.Ytekacbjnpeglhaa.Q6List Go.Proofs.Ytekacbjnpeglhaa.Q6Num Go.Proofs.Ytekacbjnpeglhaa.Q6Kind Go.Proofs.Ytekacbjnpeglhaa.Q6Tab Go.Proofs.Ytekacbjnpeglhaa.Q6Ban Go.Proofs.Ytekacbjnpeglhaa.QLoop Go.Proofs.Ytekacbjnpeglhaa.QAll Go.Proofs.Ytekacbjnpeglhaa.PBan Go.Proofs.Ytekacbjnpeglhaa.PIntA2

theorem tl_count2 {s : List Int} {l : List Ban} (ht : okT s l = true) {i V : Nat} (hi : i < s.length) : tl (all s l) i V = ((cntTo s l (i : Int) (V : Int) (prod s).toNat : Nat) : Int) := by
  obtain ⟨t1, t2, t3, t4, t5⟩ := okT_of ht
  unfold tl cntTo all upto
  rw [List.filter_map, List.length_map, List.filter_filter]
  congr 2
  apply List.filter_congr
  intro n hn
  have hok := kA_spec t4 t2 (n := n) (by have := List.mem_range.1 hn; have := prod_pos (pos_of t4); omega)
  obtain ⟨x, hx, _⟩ := at_lt (l := kA s n) (k := i) (by rw [okK_len hok.1]; exact hi)
  have hn0 : ¬ ((i : Int) < 0) := by omega
  simp [qv, hx, hn0]
theorem dead_spec {s : List Int} {l : List Ban} (ht : okT s l = true) (fuel : Nat) (hf : 3200 ≤ fuel) : GsDeadValues.P fuel s l = some (dvs s (tl (all s l)) s.length, true) := by
  obtain ⟨t1, t2, t3, t4, t5⟩ := okT_of ht
  simp only [GsDeadValues.P, l6Good_eq fuel (by omega) s l (by omega) (by omega), ht, Option.bind_some, letK, iteK_if, Bool.not_true, Bool.false_eq_true, if_false]
  obtain ⟨r, hr, rfl⟩ := lp_ex (f := GsDeadValues.l0 s l fuel) (fin := GsDeadValues.e0) (Q := fun r => r = (dvs s (tl (all s l)) s.length, true)) (n := s.length)
    (fun i (st : List IntA2 × Int) => st.2 = (i : Int) ∧ st.1 = dvs s (tl (all s l)) i ∧ st.1.length ≤ 5 * i) (by
    rintro i ⟨o, y⟩ nx hi ⟨h0, h1, h2⟩ hn
    dsimp only at h0 h1 h2
    subst h0
    obtain ⟨z, hz, hzi⟩ := at_lt (l := s) (k := i) hi
    have hz5 := okS_at t4 hz
    have hc : decide ((i : Int) < (s.length : Int)) = true := by simp; omega
    simp only [GsDeadValues.l0, unp2, letK, hc, iteK_if, if_true]
    refine lp_ex (n := z.toNat) (fun j (st : List IntA2 × Int) => st.2 = (j : Int) ∧ st.1 = dvs s (tl (all s l)) i ++ dv (tl (all s l)) i j ∧ st.1.length ≤ 5 * i + j) ?_ ?_ fuel 0 (o, 0) (by omega) (by omega) ⟨rfl, by rw [h1]; simp [dv], by omega⟩
    · rintro j ⟨o, y⟩ nx2 hj ⟨g0, g1, g2⟩ hn2
      dsimp only at g0 g1 g2
      subst g0
      have hc2 : decide ((j : Int) < z) = true := by simp; omega
      have hd := dv_succ (tl (all s l)) i j
      have hw := with_eq ht (i : Int) (j : Int) (.inr ⟨i, rfl, hi⟩) fuel hf
      rw [← tl_count2 ht hi] at hw
      simp only [GsDeadValues.l1, unp2, letK, hzi, Option.bind_some, hc2, iteK_if, if_true, hw, appK]
      rw [next_i (by omega)]
      cases hb : (tl (all s l) i j == 0) with
      | true =>
        rw [hb, if_pos rfl] at hd
        rw [if_pos rfl, guardK_pos (by omega)]
        exact hn2 _ ⟨rfl, by dsimp only; rw [g1, hd, List.append_assoc], by dsimp only; rw [List.length_append]; show o.length + 1 ≤ _; omega⟩
      | false =>
        rw [hb, if_neg (by simp)] at hd
        rw [if_neg (by simp)]
        exact hn2 _ ⟨rfl, by dsimp only; rw [g1, hd], by dsimp only; omega⟩
    · rintro ⟨o, y⟩ nx2 ⟨g0, g1, g2⟩
      dsimp only at g0 g1 g2
      subst g0
      have hc2 : decide (((z.toNat : Nat) : Int) < z) = false := by simp; omega
      simp only [GsDeadValues.l1, unp2, letK, hzi, Option.bind_some, hc2, iteK_if, Bool.false_eq_true, if_false, appK, GsDeadValues.e1]
      rw [next_i (by omega)]
      refine hn _ ⟨rfl, ?_, by dsimp only; omega⟩
      dsimp only
      rw [g1, dvs_succ, hz]
      rfl) (by
    rintro ⟨o, y⟩ nx ⟨h0, h1, h2⟩
    dsimp only at h0 h1 h2
    subst h0
    have hc : decide ((s.length : Int) < (s.length : Int)) = false := by simp
    simp only [GsDeadValues.l0, unp2, letK, hc, iteK_if, Bool.false_eq_true, if_false, appK, GsDeadValues.e0]
    exact ⟨_, rfl, by rw [h1]⟩) fuel 0 ([], 0) (by omega) (by omega) ⟨rfl, rfl, by simp⟩
  exact hr
end Go.Proofs.Ytekacbjnpeglhaa.Q6DeadS

/- Chapter 6: values that no kind has: the plain functions of the program and of the reference agree, and the law answers true. (QHA2) No condition but those of each theorem. -/
namespace Go.Proofs.Ytekacbjnpeglhaa.QHA2
set_option linter.unusedVariables false
set_option linter.unusedSimpArgs false
open Go.RowKit
open Go.Proofs.Ytekacbjnpeglhaa.GoP Go.Proofs.Ytekacbjnpeglhaa.PlainStamp Go.Proofs.Ytekacbjnpeglhaa.QBase Go.Proofs.Ytekacbjnpeglhaa.QLoop Go.Proofs.Ytekacbjnpeglhaa.QAll Go.Proofs.Ytekacbjnpeglhaa.PIntA2

theorem eqA2 (a : IntA2) : GlEqIntA2.P a a = some true := by
  obtain ⟨x, y⟩ := a
  simp only [GlEqIntA2.P, unIntA2]
  refine cnt_is true (fun _ _ => True) ?_ (fun s _ => rfl) () trivial
  rintro k ⟨⟩ nx hk _ hn
  obtain ⟨u, hu, hui⟩ := at_lt (l := [x, y]) (k := k) hk
  simp only [GlEqIntA2.l0, hui, Option.bind_some, letK, appK, iteK_if]
  rw [if_neg (by simp)]
  exact hn () trivial
theorem eqA (l : List IntA2) : GlEqIntA2S.P l l = some true := by
  simp only [GlEqIntA2S.P, letK, iteK_if]
  rw [if_neg (by simp)]
  refine cnt_is true (fun _ _ => True) ?_ (fun s _ => rfl) () trivial
  rintro k ⟨⟩ nx hk _ hn
  obtain ⟨x, hx, hi⟩ := at_lt (l := l) (k := k) hk
  simp only [GlEqIntA2S.l0, hi, Option.bind_some, unIntA2, eqA2, letK, appK, iteK_if]
  rw [if_neg (by simp)]
  exact hn () trivial
def up2 (n : Nat) : List IntA2 := (List.range n).map fun i : Nat => ⟨2 * (i : Int) + 1, 2 * (i : Int) + 2⟩
theorem up2_at {n k : Nat} (h : k < n) : (up2 n)[k]? = some ⟨2 * (k : Int) + 1, 2 * (k : Int) + 2⟩ := by unfold up2; simp [h]
theorem up2_len (n : Nat) : (up2 n).length = n := by simp [up2]
theorem markA (l : List IntA2) (hl : l.length ≤ 1048576) : GlMarkIntA2S.P l 1 = some (2 * (l.length : Int) + 1, up2 l.length) := by
  simp only [GlMarkIntA2S.P]
  refine cnt_is _ (fun k (s : List IntA2 × Int) => s.1.length = l.length ∧ s.2 = 2 * (k : Int) + 1 ∧ ∀ i : Nat, i < k → s.1[i]? = some ⟨2 * (i : Int) + 1, 2 * (i : Int) + 2⟩) ?_ ?_ (l, 1) ⟨rfl, rfl, fun i hi => by omega⟩
  · rintro k ⟨a, c⟩ nx hk ⟨h1, h2, h3⟩ hn
    dsimp only at h1 h2 h3
    simp only [GlMarkIntA2S.l0, unp2]
    refine cnt_is _ (fun j (s : List IntA2 × Int) => s.1.length = l.length ∧ s.2 = c + (j : Int) ∧ (∀ i : Nat, i < k → s.1[i]? = some ⟨2 * (i : Int) + 1, 2 * (i : Int) + 2⟩) ∧ ∃ x, s.1[k]? = some x ∧ (0 < j → x.x0 = c) ∧ (1 < j → x.x1 = c + 1)) ?_ ?_ (a, c) ⟨h1, by simp, h3, by
      obtain ⟨x, hx, _⟩ := at_lt (l := a) (k := k) (by omega)
      exact ⟨x, hx, fun h => by omega, fun h => by omega⟩⟩
    · rintro j ⟨b, d⟩ nx2 hj ⟨g1, g2, g3, x, g4, g5, g6⟩ hn2
      dsimp only at g1 g2 g3 g4
      have gi : idx b (k : Int) = some x := by rw [idx_nat, g4]
      obtain ⟨p, q⟩ := x
      obtain ⟨u, hu, hui⟩ := at_lt (l := [p, q]) (k := j) hj
      simp only [GlMarkIntA2S.l1, unp2, gi, Option.bind_some, unIntA2, hui, letK, appK]
      rw [wrap_in (by omega) (by omega)]
      have hkb := (List.getElem?_eq_some_iff.1 g4).1
      refine hn2 _ ⟨by dsimp only; rw [List.length_set]; exact g1, by dsimp only; omega, fun i hi => by dsimp only; rw [List.getElem?_set_ne (by omega)]; exact g3 i hi, _, by dsimp only; rw [List.getElem?_set_self hkb], ?_, ?_⟩
      · intro _
        have : j = 0 ∨ j = 1 := by omega
        rcases this with rfl | rfl
        · show d = c; omega
        · exact g5 (by omega)
      · intro _
        have : j = 1 := by omega
        subst this
        show d = c + 1; omega
    · rintro ⟨b, d⟩ ⟨g1, g2, g3, x, g4, g5, g6⟩
      dsimp only at g1 g2 g3 g4
      simp only [GlMarkIntA2S.e1, unp2, appK]
      refine hn _ ⟨g1, by dsimp only; omega, fun i hi => ?_⟩
      dsimp only
      by_cases he : i = k
      · subst he
        obtain ⟨p, q⟩ := x
        have e1 := g5 (by omega)
        have e2 := g6 (by omega)
        dsimp only at e1 e2
        rw [g4, e1, e2, h2]
        simp; omega
      · exact g3 i (by omega)
  · rintro ⟨a, c⟩ ⟨h1, h2, h3⟩
    dsimp only at h1 h2 h3
    have : a = up2 l.length := by
      apply List.ext_getElem?
      intro i
      by_cases hi : i < l.length
      · rw [h3 i hi, up2_at hi]
      · rw [List.getElem?_eq_none (by omega), List.getElem?_eq_none (by rw [up2_len]; omega)]
    simp only [GlMarkIntA2S.e0, unp2]
    rw [this, h2]
theorem heldA (n : Nat) (hl : n ≤ 1048576) : GlHeldIntA2S.P (up2 n) 1 = some (2 * (n : Int) + 1) := by
  simp only [GlHeldIntA2S.P]
  refine cnt_is _ (fun k s => s = 2 * (k : Int) + 1) ?_ ?_ 1 rfl
  · intro k s nx hk hI hn
    rw [up2_len] at hk
    have hi : idx (up2 n) (k : Int) = some ⟨2 * (k : Int) + 1, 2 * (k : Int) + 2⟩ := by rw [idx_nat, up2_at hk]
    simp only [GlHeldIntA2S.l0, letK]
    refine cnt_is _ (fun j s' => s' = s + (j : Int)) ?_ ?_ s (by simp)
    · intro j s' nx2 hj hI2 hn2
      have : j = 0 ∨ j = 1 := by omega
      simp only [GlHeldIntA2S.l1, letK, hi, Option.bind_some, unIntA2]
      have hu : idx [2 * (k : Int) + 1, 2 * (k : Int) + 2] (j : Int) = some (2 * (k : Int) + 1 + (j : Int)) := by
        rcases this with rfl | rfl
        · rw [idx_nat]; simp
        · rw [idx_nat]; simp; omega
      simp only [hu, Option.bind_some, appK, iteK_if]
      rw [if_neg (by simp; omega), wrap_in (by omega) (by omega)]
      exact hn2 _ (by omega)
    · intro s' hI2
      simp only [GlHeldIntA2S.e1, letK, appK]
      exact hn _ (by omega)
  · intro s hI
    simp only [GlHeldIntA2S.e0, letK]
    rw [hI, up2_len]
end Go.Proofs.Ytekacbjnpeglhaa.QHA2

/- Chapter 5: combs, holes, gauges: the plain functions of the program and of the reference agree, and the laws answer true. (QToI) No condition but those of each theorem. -/
namespace Go.Proofs.Ytekacbjnpeglhaa.QToI
set_option linter.unusedVariables false
set_option linter.unusedSimpArgs false
open Go.RowKit
open Go.Proofs.Ytekacbjnpeglhaa.GoP Go.Proofs.Ytekacbjnpeglhaa.PlainStamp Go.Proofs.Ytekacbjnpeglhaa.QBase Go.Proofs.Ytekacbjnpeglhaa.QLoop

theorem toI (l : List Int) (hl : l.length ≤ 1048576) : GlToIntS.P l = some l := by
  simp only [GlToIntS.P, letK]
  rw [guardK_pos (by omega)]
  refine cnt_is l (fun k s => s = l.take k ++ List.replicate (l.length - k) 0) ?_ ?_ _ (by simp)
  · intro k s nx hk hI hn
    obtain ⟨x, hx, hi⟩ := at_lt (l := l) (k := k) hk
    have hlen : s.length = l.length := by rw [hI]; simp; omega
    obtain ⟨z, hz, hj⟩ := at_lt (l := s) (k := k) (by omega)
    simp only [GlToIntS.l0, hi, hj, Option.bind_some, letK, appK]
    refine hn _ ?_
    rw [hI, take_next hx, List.set_append_right _ _ (by simp; omega)]
    have hr : l.length - k = (l.length - (k + 1)) + 1 := by omega
    rw [hr, List.replicate_succ, List.append_assoc]
    simp [show k - min k l.length = 0 by omega]
  · intro s hI
    rw [hI]; simp [GlToIntS.e0, letK]
end Go.Proofs.Ytekacbjnpeglhaa.QToI

/- The laws' helpers on Ban and on slices of it as plain functions: copied, equal, their bulk. No condition. -/
namespace Go.Proofs.Ytekacbjnpeglhaa.QHBanE
set_option linter.unusedVariables false
set_option linter.unusedSimpArgs false
open Go.RowKit
open Go.Proofs.Ytekacbjnpeglhaa.GoP Go.Proofs.Ytekacbjnpeglhaa.QBase Go.Proofs.Ytekacbjnpeglhaa.QLoop Go.Proofs.Ytekacbjnpeglhaa.PBan

theorem toOne (s : Ban) : GlToBan.P s = some s := by cases s; rfl
theorem eqOne (s : Ban) : GlEqBan.P s s = some true := by
  obtain ⟨x0, x1, x2, x3⟩ := s
  simp [GlEqBan.P, unBan, letK, joinK, appK, iteK_if]
theorem toS (l : List Ban) (hl : l.length ≤ 1048576) : GlToBanS.P l = some l := by
  simp only [GlToBanS.P, letK]
  rw [guardK_pos (by omega)]
  refine cnt_is l (fun k s => s = l.take k ++ List.replicate (l.length - k) (Ban.mk 0 0 0 0)) ?_ ?_ _ (by simp)
  · intro k s nx hk hI hn
    obtain ⟨x, hx, hi⟩ := at_lt (l := l) (k := k) hk
    have hlen : s.length = l.length := by rw [hI]; simp; omega
    obtain ⟨z, hz, hj⟩ := at_lt (l := s) (k := k) (by omega)
    simp only [GlToBanS.l0, hi, hj, toOne, Option.bind_some, unBan, letK, appK]
    refine hn _ ?_
    rw [hI, take_next hx, List.set_append_right _ _ (by simp; omega)]
    have hr : l.length - k = (l.length - (k + 1)) + 1 := by omega
    rw [hr, List.replicate_succ, List.append_assoc]
    simp [show k - min k l.length = 0 by omega]
  · intro s hI
    rw [hI]; simp [GlToBanS.e0, letK]
theorem eqS (l : List Ban) : GlEqBanS.P l l = some true := by
  simp only [GlEqBanS.P, letK, iteK_if]
  rw [if_neg (by simp)]
  refine cnt_is true (fun _ _ => True) ?_ (fun s _ => rfl) () trivial
  intro k s nx hk _ hn
  obtain ⟨x, hx, hi⟩ := at_lt (l := l) (k := k) hk
  simp only [GlEqBanS.l0, hi, Option.bind_some, unBan, eqOne, letK, appK, iteK_if]
  exact hn () trivial
theorem szS (l : List Ban) (hl : l.length ≤ 9223372036854775807) : GlSzBanS.P l 1048576 = some (if l.length ≤ 1048576 then 1048576 - (l.length : Int) else -1) := by
  simp only [GlSzBanS.P, letK, iteK_if]
  rw [wrap_in (by omega) (by omega)]
  by_cases h : l.length ≤ 1048576
  · rw [if_neg (by simp; omega), if_pos h]
  · rw [if_pos (by simp; omega), if_neg h]
end Go.Proofs.Ytekacbjnpeglhaa.QHBanE

/- Chapter 6: tables of kinds: the plain functions of the program and of the reference agree, and the laws answer true. (Q6Help) No condition but those of each theorem. -/
namespace Go.Proofs.Ytekacbjnpeglhaa.Q6Help
set_option linter.unusedVariables false
set_option linter.unusedSimpArgs false
open Go.RowKit
open Go.Proofs.Ytekacbjnpeglhaa.GoP Go.Proofs.Ytekacbjnpeglhaa.PlainStamp Go.Proofs.Ytekacbjnpeglhaa.QBase Go.Proofs.Ytekacbjnpeglhaa.QLoop Go.Proofs.Ytekacbjnpeglhaa.QAll Go.Proofs.Ytekacbjnpeglhaa.PBan Go.Proofs.Ytekacbjnpeglhaa.QToI Go.Proofs.Ytekacbjnpeglhaa.QHBanE

theorem szT (s : List Int) (l : List Ban) (hs : s.length ≤ 9223372036854775807) (hl : l.length ≤ 9223372036854775807) : ∃ c, GlSzKindTable.P s l 1048576 = some c ∧ (0 ≤ c → s.length ≤ 1048576 ∧ l.length ≤ 1048576) := by
  simp only [GlSzKindTable.P, GlSzIntS.P, GlSzBanS.P, letK, iteK_if]
  rw [wrap_in (x := 1048576 - (s.length : Int)) (by omega) (by omega)]
  by_cases h : (1048576 - (s.length : Int)) < 0
  · exact ⟨-1, by simp [h], by omega⟩
  · rw [if_neg (by simpa using h)]
    simp only [Option.bind_some]
    rw [if_neg (by simpa using h), wrap_in (by omega) (by omega)]
    by_cases h2 : (1048576 - (s.length : Int) - (l.length : Int)) < 0
    · exact ⟨-1, by simp [h2], by omega⟩
    · exact ⟨_, by rw [if_neg (by simpa using h2)]; simp only [Option.bind_some]; rw [if_neg (by simpa using h2)], by omega⟩
theorem toT (s : List Int) (l : List Ban) (hs : s.length ≤ 1048576) (hl : l.length ≤ 1048576) : GlToKindTable.P s l = some ⟨s, l⟩ := by
  simp only [GlToKindTable.P, toI s hs, toS l hl, Option.bind_some]
theorem eqI2 (l : List Int) : GlEqIntS.P l l = some true := by
  simp only [GlEqIntS.P, letK, iteK_if]
  rw [if_neg (by simp)]
  refine cnt_is true (fun _ _ => True) ?_ (fun s _ => rfl) () trivial
  intro k s nx hk _ hn
  obtain ⟨x, hx, hi⟩ := at_lt (l := l) (k := k) hk
  simp only [GlEqIntS.l0, hi, Option.bind_some, letK, appK, iteK_if]
  rw [if_neg (by simp)]
  exact hn () trivial
theorem eqT (s : List Int) (l : List Ban) : GlEqKindTable.P s l s l = some true := by
  simp [GlEqKindTable.P, eqI2, eqS, letK, iteK_if]
end Go.Proofs.Ytekacbjnpeglhaa.Q6Help

/- loop.example/g01062/laws.heldIntS as a plain function, and the contract of the program's: where the plain one has an answer, the program has it. Conditions: slices read as lists. -/
namespace Go.Proofs.Ytekacbjnpeglhaa.GlHeldIntS
set_option linter.unusedVariables false
set_option linter.unusedSimpArgs false
open Go.RowKit
open Go.Proofs.Ytekacbjnpeglhaa.Rowed Go.Proofs.Ytekacbjnpeglhaa.Turn Go.Proofs.Ytekacbjnpeglhaa.Aid Go.Proofs.Ytekacbjnpeglhaa.GoP Go.Proofs.Ytekacbjnpeglhaa.GoM

def l0 (a : (List Int)) (k0 : Nat) (s : Int) (nx0 bk0 : Int → Option (Int)) : Option (Int) :=
  letK s fun k_1l0 =>
  Option.bind (idx a (k0 : Int)) fun (yt_8 : Int) =>
  letK (yt_8 != k_1l0) fun (t_11 : Bool) =>
  iteK t_11
  (some (-1))
  (letK (IntKind.i64.wrap (k_1l0 + 1)) fun (t_14 : Int) =>
  appK nx0 (t_14))

def e0  (s : Int) : Option (Int) :=
  letK s fun k_1l0 =>
  some k_1l0

def P (a : (List Int)) (k_1 : Int) : Option (Int) :=
  cntK (l0 a) (a.length) 0 (k_1) (e0 )

set_option maxRecDepth 100000 in
set_option maxHeartbeats 2000000 in
theorem C (a : (List Int)) (k_1 : Int) (A0 : Option Addr) (c0 : Nat)  (w : World) (M0 : Hid (Cells w 1 A0 a.length (Go.Proofs.Ytekacbjnpeglhaa.HelpInt.iv a))) (N0 : Hid (a.length ≤ 9223372036854775807))  {r : Int} (H : Hid (P a k_1 = some r)) :
    Calls Try.prog 28 #[.slice A0 a.length c0, .int .i64 k_1] w (Gives (.int .i64 r) w) := by
  have HB := Lib.hid (Below.refl w.heap.size w)
  unfold P at H
  have N0o := N0.out
  go_enter Try.func28, Try.ntmps28
  go_wp2_with fail
  go_loopg [5, 1] (a.length) (fun m_ v5_ v1_ wr => ∃ (k0 : Nat) (k_1l0 : Int), k0 + m_ = a.length ∧ v5_ = .int .i64 (k0 : Int) ∧ v1_ = .int .i64 k_1l0 ∧ Hid (cntK (l0 a) m_ k0 (k_1l0) (e0 ) = some r) ∧ Hid (Below w.heap.size w wr))
  case atStart => exact ⟨0, _, by omega, rfl, rfl, H, HB⟩
  case round =>
    obtain ⟨k0, k_1l0, hkm0, rfl, rfl, H, HBwr0⟩ := hrel
    rename World => wr0
    cases gk with
    | zero =>
      obtain rfl : k0 = a.length := by omega
      have hc0 : decide (((a.length : Nat) : Int) < ((a.length : Nat) : Int)) = false := by simp
      replace H := cnt_zero H
      unfold e0 at H
      replace H := let_hid H
      obtain ⟨_, rfl, H⟩ := H
      obtain rfl := ret_hid H
      go_wp2_with fail
      go_ret
      exact ⟨rfl, HBwr0.out⟩
    | succ m0 =>
      have hlt0 : k0 < a.length := by omega
      have hc0 : decide ((k0 : Int) < ((a.length : Nat) : Int)) = true := by simp; omega
      replace H := cnt_succ H
      unfold l0 at H
      replace H := let_hid H
      obtain ⟨_, rfl, H⟩ := H
      replace H := idx_hid H
      obtain ⟨nt_8, yt_8, et_8, lt_8, gt_8, H⟩ := H
      obtain rfl : k0 = nt_8 := by omega
      clear et_8
      obtain ⟨ab_t_8, ao_t_8, zt_8, At_8, z_t_8, ct_8_0⟩ := Go.Proofs.Ytekacbjnpeglhaa.HelpInt.Ints.at_ M0.out lt_8
      obtain rfl := Option.some.inj (gt_8.out.symm.trans z_t_8)
      subst At_8
      have ltt_8 := cell_lt ct_8_0
      replace ct_8_0 := cell_below HBwr0.out ct_8_0
      clear z_t_8
      have b0t_8 : (0 : Int) ≤ (k0 : Int) := by omega
      have b1t_8 : (k0 : Int) < ((a.length : Nat) : Int) := by omega
      have b2t_8 : ((k0 : Int)).toNat = k0 := by omega
      replace H := let_hid H
      obtain ⟨t_11, ht_11, H⟩ := H
      cases t_11 with
      | false =>
        replace H := ite_f H
        replace H := let_hid H
        obtain ⟨t_14, ht_14, H⟩ := H
        replace H := app_hid H
        go_wp2_with fail
        go_roundg m0
        case measure => omega
        case rel => exact ⟨k0 + 1, _, by omega, by go_num, rfl, H, HBwr0⟩
      | true =>
        replace H := ite_t H
        obtain rfl := ret_hid H
        go_wp2_with fail
        go_ret
        exact ⟨rfl, HBwr0.out⟩
end Go.Proofs.Ytekacbjnpeglhaa.GlHeldIntS

/- The laws' helpers on slices of ints as plain functions: equal, marked, held. Condition: at most 2^40 numbers. -/
namespace Go.Proofs.Ytekacbjnpeglhaa.QInt
set_option linter.unusedVariables false
set_option linter.unusedSimpArgs false
open Go.RowKit
open Go.Proofs.Ytekacbjnpeglhaa.GoP Go.Proofs.Ytekacbjnpeglhaa.QBase Go.Proofs.Ytekacbjnpeglhaa.QLoop

theorem eqI (l : List Int) : GlEqIntS.P l l = some true := by
  simp only [GlEqIntS.P, letK, iteK_if]
  rw [if_neg (by simp)]
  refine cnt_is true (fun _ _ => True) ?_ (fun s _ => rfl) () trivial
  intro k s nx hk _ hn
  obtain ⟨x, hx, hi⟩ := at_lt (l := l) (k := k) hk
  simp only [GlEqIntS.l0, hi, Option.bind_some, letK, appK, iteK_if]
  rw [if_neg (by simp)]
  exact hn () trivial
/-- 1, 2, 3 .. -/
def ups (n : Nat) : List Int := (List.range n).map (fun i : Nat => (i : Int) + 1)
theorem ups_at {n k : Nat} (h : k < n) : (ups n)[k]? = some ((k : Int) + 1) := by unfold ups; simp [h]
theorem ups_len (n : Nat) : (ups n).length = n := by simp [ups]
theorem markI (l : List Int) (hl : l.length ≤ 1099511627776) : GlMarkIntS.P l 1 = some ((l.length : Int) + 1, ups l.length) := by
  simp only [GlMarkIntS.P]
  refine cnt_is _ (fun k s => s.1.length = l.length ∧ s.2 = (k : Int) + 1 ∧ ∀ i, i < k → s.1[i]? = some ((i : Int) + 1)) ?_ ?_ (l, 1) ⟨rfl, rfl, fun i hi => by omega⟩
  · rintro k ⟨a, b⟩ nx hk ⟨h1, h2, h3⟩ hn
    dsimp only at h1 h2 h3
    obtain ⟨x, hx, hi⟩ := at_lt (l := a) (k := k) (by omega)
    simp only [GlMarkIntS.l0, unp2, hi, Option.bind_some, letK, appK]
    rw [wrap_in (by omega) (by omega)]
    refine hn _ ⟨by simpa using h1, by dsimp only; omega, fun i hi2 => ?_⟩
    dsimp only
    by_cases he : i = k
    · subst he; rw [List.getElem?_set_self (by omega), h2]
    · rw [List.getElem?_set_ne (by omega)]; exact h3 i (by omega)
  · rintro ⟨a, b⟩ ⟨h1, h2, h3⟩
    dsimp only at h1 h2 h3
    have : a = ups l.length := by
      apply List.ext_getElem?
      intro i
      by_cases hi : i < l.length
      · rw [h3 i hi, ups_at hi]
      · rw [List.getElem?_eq_none (by omega), List.getElem?_eq_none (by rw [ups_len]; omega)]
    simp only [GlMarkIntS.e0, unp2]
    rw [this, h2]
theorem heldI (n : Nat) (hl : n ≤ 1099511627776) : GlHeldIntS.P (ups n) 1 = some ((n : Int) + 1) := by
  simp only [GlHeldIntS.P]
  refine cnt_is _ (fun k s => s = (k : Int) + 1) ?_ ?_ 1 rfl
  · intro k s nx hk hI hn
    rw [ups_len] at hk
    have hi : idx (ups n) (k : Int) = some ((k : Int) + 1) := by rw [idx_nat, ups_at hk]
    simp only [GlHeldIntS.l0, hi, Option.bind_some, letK, appK, iteK_if]
    rw [if_neg (by simp [hI]), wrap_in (by omega) (by omega)]
    exact hn _ (by omega)
  · intro s hI
    simp only [GlHeldIntS.e0, letK]
    rw [hI, ups_len]
/-- a loop that gathers -/
theorem gather {α β R : Type} {l : List α} {p : α → Bool} {g : α → β} {f : Nat → List β → (List β → Option R) → (List β → Option R) → Option R} {fin : List β → Option R} (hl : l.length ≤ 1099511627776)
    (step : ∀ k nx x s, l[k]? = some x → s.length ≤ 1099511627776 → f k s nx fin = nx (if p x then s ++ [g x] else s)) : cntK f l.length 0 [] fin = fin ((l.filter p).map g) := by
  have key : ∀ m k, k + m = l.length → cntK f m k (((l.take k).filter p).map g) fin = fin ((l.filter p).map g) := by
    intro m
    induction m with
    | zero => intro k hk; obtain rfl : k = l.length := by omega
              rw [List.take_of_length_le (Nat.le_refl _)]; rfl
    | succ m ih =>
      intro k hk
      obtain ⟨x, hx, _⟩ := at_lt (l := l) (k := k) (by omega)
      show f k _ _ fin = _
      have hle : (((l.take k).filter p).map g).length ≤ 1099511627776 := by
        rw [List.length_map]
        have := List.length_filter_le p (l.take k)
        rw [List.length_take] at this
        omega
      rw [step k _ x _ hx hle, ← ih (k + 1) (by omega), take_next hx, List.filter_append, List.map_append]
      cases hp : p x <;> simp [List.filter, hp]
  exact key l.length 0 (by omega)
end Go.Proofs.Ytekacbjnpeglhaa.QInt

/- Chapter 6: kinds in their order, as numbers: the program's search and the reference's. (Q6Mark) No condition but those of each theorem. -/
namespace Go.Proofs.Ytekacbjnpeglhaa.Q6Mark
set_option linter.unusedVariables false
set_option linter.unusedSimpArgs false
open Go.RowKit
open Go.Proofs.Ytekacbjnpeglhaa.GoP Go.Proofs.Ytekacbjnpeglhaa.PlainStamp Go.Proofs.Ytekacbjnpeglhaa.QBase Go.Proofs.Ytekacbjnpeglhaa.Q6Help Go.Proofs.Ytekacbjnpeglhaa.QLoop Go.Proofs.Ytekacbjnpeglhaa.PBan Go.Proofs.Ytekacbjnpeglhaa.QInt

theorem set_at {α : Type} {l : List α} {k : Nat} (x : α) (h : k < l.length) : idx (l.set k x) (k : Int) = some x := by rw [idx_nat, List.getElem?_set_self h]
theorem markB (l : List Ban) (hl : l.length ≤ 1048576) (c : Int) (h0 : 0 ≤ c) (h1 : c ≤ 4294967296) : ∃ v l', GlMarkBanS.P l c = some (v, l') ∧ 0 ≤ v ∧ v ≤ 4294967296 * 2 := by
  obtain ⟨⟨v, l'⟩, h, hv⟩ : ∃ r : Int × List Ban, GlMarkBanS.P l c = some r ∧ 0 ≤ r.1 ∧ r.1 ≤ 4294967296 * 2 := by
    simp only [GlMarkBanS.P]
    refine cnt_ex (n := l.length) (Q := fun r : Int × List Ban => 0 ≤ r.1 ∧ r.1 ≤ 4294967296 * 2) (fun k (s : List Ban × Int) => s.1.length = l.length ∧ s.2 = 4 * (k : Int) + c) ?_ ?_ l.length 0 (l, c) (by omega) ⟨rfl, by simp⟩
    · rintro k ⟨a, b⟩ nx hk ⟨h1, h2⟩ hn
      dsimp only at h1 h2
      obtain ⟨x, hx, hi⟩ := at_lt (l := a) (k := k) (by omega)
      have ha : k < a.length := by omega
      have w1 : IntKind.i64.wrap (b + 1) = b + 1 := wrap_in (by omega) (by omega)
      have w2 : IntKind.i64.wrap (b + 1 + 1) = b + 1 + 1 := wrap_in (by omega) (by omega)
      have w3 : IntKind.i64.wrap (b + 1 + 1 + 1) = b + 1 + 1 + 1 := wrap_in (by omega) (by omega)
      have w4 : IntKind.i64.wrap (b + 1 + 1 + 1 + 1) = b + 1 + 1 + 1 + 1 := wrap_in (by omega) (by omega)
      simp (disch := simp [ha]) only [GlMarkBanS.l0, unp2, hi, set_at, Option.bind_some, unBan, letK, appK, w1, w2, w3, w4]
      exact hn _ ⟨by simpa using h1, by dsimp only; omega⟩
    · rintro ⟨a, b⟩ ⟨h1, h2⟩
      exact ⟨_, rfl, by dsimp only at h2 ⊢; omega⟩
  exact ⟨v, l', h, hv⟩
theorem markT (s : List Int) (l : List Ban) (hs : s.length ≤ 1048576) (hl : l.length ≤ 1048576) : ∃ v a b, GlMarkKindTable.P s l 1 = some (v, a, b) ∧ 0 ≤ v ∧ v ≤ 4294967296 * 2 := by
  simp only [GlMarkKindTable.P, markI s (by omega), bind2_some]
  obtain ⟨v, l', h, hv⟩ := markB l hl ((s.length : Int) + 1) (by omega) (by omega)
  exact ⟨v, _, l', by rw [h, bind2_some], hv⟩

theorem markI2 (l : List Int) (hl : l.length ≤ 1048576) (c : Int) (h0 : 0 ≤ c) (h1 : c ≤ 4294967296 * 2) : ∃ v l', GlMarkIntS.P l c = some (v, l') ∧ 0 ≤ v := by
  obtain ⟨⟨v, l'⟩, h, hv⟩ : ∃ r : Int × List Int, GlMarkIntS.P l c = some r ∧ 0 ≤ r.1 := by
    simp only [GlMarkIntS.P]
    refine cnt_ex (n := l.length) (Q := fun r : Int × List Int => 0 ≤ r.1) (fun k (s : List Int × Int) => s.1.length = l.length ∧ s.2 = (k : Int) + c) ?_ ?_ l.length 0 (l, c) (by omega) ⟨rfl, by simp⟩
    · rintro k ⟨a, b⟩ nx hk ⟨h1, h2⟩ hn
      dsimp only at h1 h2
      obtain ⟨x, hx, hi⟩ := at_lt (l := a) (k := k) (by omega)
      simp only [GlMarkIntS.l0, unp2, hi, Option.bind_some, letK, appK]
      rw [wrap_in (by omega) (by omega)]
      exact hn _ ⟨by simpa using h1, by dsimp only; omega⟩
    · rintro ⟨a, b⟩ ⟨h1, h2⟩
      exact ⟨_, rfl, by dsimp only at h2 ⊢; omega⟩
  exact ⟨v, l', h, hv⟩
end Go.Proofs.Ytekacbjnpeglhaa.Q6Mark

/- Chapter 6: values that no kind has: the plain functions of the program and of the reference agree, and the law answers true. (QL6Dead) No condition but those of each theorem. -/
namespace Go.Proofs.Ytekacbjnpeglhaa.QL6Dead
set_option linter.unusedVariables false
set_option linter.unusedSimpArgs false
open Go.RowKit
open Go.Proofs.Ytekacbjnpeglhaa.GoP Go.Proofs.Ytekacbjnpeglhaa.PlainStamp Go.Proofs.Ytekacbjnpeglhaa.QBase Go.Proofs.Ytekacbjnpeglhaa.Q6List Go.Proofs.Ytekacbjnpeglhaa.Q6Ban Go.Proofs.Ytekacbjnpeglhaa.Q6DeadS Go.Proofs.Ytekacbjnpeglhaa.Q6Dead Go.Proofs.Ytekacbjnpeglhaa.QHA2 Go.Proofs.Ytekacbjnpeglhaa.Q6Mark Go.Proofs.Ytekacbjnpeglhaa.Q6Help Go.Proofs.Ytekacbjnpeglhaa.Q6Tally Go.Proofs.Ytekacbjnpeglhaa.Q6Tab Go.Proofs.Ytekacbjnpeglhaa.QLoop Go.Proofs.Ytekacbjnpeglhaa.PBan Go.Proofs.Ytekacbjnpeglhaa.PIntA2

theorem dvs_len (s : List Int) (g : Nat → Nat → Int) (h : ∀ z ∈ s, z ≤ 5) : ∀ n, (dvs s g n).length ≤ 5 * n := by
  intro n
  induction n with
  | zero => simp [dvs]
  | succ n ih =>
    rw [dvs_succ, List.length_append]
    have h1 := dv_len g n (s[n]?.getD 0).toNat
    have h2 : s[n]?.getD 0 ≤ 5 := by
      cases hz : s[n]? with
      | none => simp
      | some z => exact h z (List.mem_of_getElem? hz)
    omega
theorem dead_both (fuel : Nat) (hf : 3200 ≤ fuel) (s : List Int) (l : List Ban) (hs : s.length ≤ 9223372036854775807) (hl : l.length ≤ 9223372036854775807) :
    ∃ r, GiDeadValues.P fuel s l = some r ∧ GsDeadValues.P fuel s l = some r ∧ r.1.length ≤ 25 := by
  cases ht : okT s l with
  | false =>
    refine ⟨([], false), ?_, ?_, by simp⟩
    · simp [GiDeadValues.P, isTable_eq s l hs hl, ht, letK, iteK_if]
    · simp [GsDeadValues.P, l6Good_eq fuel (by omega) s l hs hl, ht, letK, iteK_if]
  | true =>
    obtain ⟨t1, t2, t3, t4, t5⟩ := okT_of ht
    refine ⟨_, dead_impl ht fuel hf, dead_spec ht fuel hf, ?_⟩
    have := dvs_len s (tl (all s l)) (fun z hz => by obtain ⟨i, hi⟩ := List.getElem?_of_mem hz; exact (okS_at t4 hi).2) s.length
    dsimp only
    omega
theorem law_dead (fuel : Nat) (hf : 3200 ≤ fuel) (s : List Int) (l : List Ban) (hs : s.length ≤ 9223372036854775807) (hl : l.length ≤ 9223372036854775807) : GlFnExactDeadValues.P fuel s l = some true := by
  obtain ⟨c, hc, hb⟩ := szT s l hs hl
  simp only [GlFnExactDeadValues.P, hc, Option.bind_some, letK, iteK_if]
  by_cases h : c < 0
  · simp [h]
  · obtain ⟨h1, h2⟩ := hb (by omega)
    obtain ⟨⟨a, b⟩, hi, hsp, hlen⟩ := dead_both fuel hf s l hs hl
    obtain ⟨v, x, y, hm, hv⟩ := markT s l h1 h2
    dsimp only at hlen
    have hv2 : ¬ v < 0 := by omega
    have e1 : ¬ (2 * (a.length : Int) + 1 < 0) := by omega
    simp [h, toT s l h1 h2, unKindTable, hi, hsp, eqT, eqA, hm, hv2, markA a (by omega), heldA a.length (by omega), e1, bind2, bind3, joinK, appK, iteK_if]
end Go.Proofs.Ytekacbjnpeglhaa.QL6Dead

/- A slice of strings or of integers that lies in a record that came in: the list that it reads as. No condition. -/
namespace Go.Proofs.Ytekacbjnpeglhaa.OpenNest
set_option linter.unusedVariables false
open Go.Joins Go.ChangeShapes Go.WideShapes Go.RowKit Go.Deep Go.Proofs.Ytekacbjnpeglhaa.Rowed
theorem len1 {l : List Value} (h : l.length = 1) : ∃ a, l = [a] := List.length_eq_one_iff.1 h
theorem len2 {l : List Value} (h : l.length = 2) : ∃ a b, l = [a, b] := by
  match l, h with
  | [a, b], _ => exact ⟨a, b, rfl⟩
theorem len3 {l : List Value} (h : l.length = 3) : ∃ a b c, l = [a, b, c] := by
  match l, h with
  | [a, b, c], _ => exact ⟨a, b, c, rfl⟩
theorem len4 {l : List Value} (h : l.length = 4) : ∃ a b c d, l = [a, b, c, d] := by
  match l, h with
  | [a, b, c, d], _ => exact ⟨a, b, c, d, rfl⟩
theorem len5 {l : List Value} (h : l.length = 5) : ∃ a b c d e, l = [a, b, c, d, e] := by
  match l, h with
  | [a, b, c, d, e], _ => exact ⟨a, b, c, d, e, rfl⟩
section
variable {H : Type} {enc : TypeId × Value → H} {P : Program} {w : World}
theorem one_strs {t e : TypeId} {fuel : Nat} {u : Value} {x : DataW H × List MemPlace} (ht : P.underlying t = some (.slice e)) (he : P.underlying e = some .string) (hc : P.cellsOf e = 1)
    (h : DataW.trod enc P w 0 (fun _ => true) true fuel t [u] = some x) :
    ∃ (a : Option Addr) (len cap : Nat) (l : List ByteArray), u = .slice a len cap ∧ Cells w 1 a len (l.map Value.string) ∧ l.length = len ∧ len ≤ maxLen ∧ ∀ s ∈ l, s.size ≤ maxLen := by
  rcases open_strings ht he hc h with ⟨hcs, _⟩ | ⟨x, l, c, zs, hcs, hxb, hl, hm, hz, hdat, hcell, hwz⟩
  · obtain rfl : u = .slice none 0 0 := by simpa using hcs
    exact ⟨none, 0, 0, [], rfl, Cells.nil_ _ _ _, rfl, by unfold maxLen; omega, by intro s hs; simp at hs⟩
  · obtain rfl : u = .slice (some x) l c := by simpa using hcs
    have hz' : zs.length = c := by simpa using hz
    refine ⟨some x, l, c, zs.take l, rfl, ⟨by rw [List.length_map, List.length_take]; omega, fun _ => ⟨x, rfl, fun j u hu => ?_⟩⟩, by rw [List.length_take]; omega, by omega, fun s hs => hwz s (List.mem_of_mem_take hs)⟩
    rw [List.getElem?_map] at hu
    cases hj : (zs.take l)[j]? with
    | none => rw [hj] at hu; simp at hu
    | some y =>
      rw [hj] at hu
      obtain rfl : Value.string y = u := by simpa using hu
      have hjl := (List.getElem?_eq_some_iff.1 hj).1
      rw [List.length_take] at hjl
      rw [List.getElem?_take_of_lt (by omega)] at hj
      rw [hcell j (by omega), List.getD_eq_getElem?_getD, hj]; rfl
theorem one_ints {t e : TypeId} {fuel : Nat} {u : Value} {x : DataW H × List MemPlace} (ht : P.underlying t = some (.slice e)) (he : P.underlying e = some (.int .i64)) (hc : P.cellsOf e = 1)
    (h : DataW.trod enc P w 0 (fun _ => true) true fuel t [u] = some x) :
    ∃ (a : Option Addr) (len cap : Nat) (l : List Int), u = .slice a len cap ∧ Cells w 1 a len (l.map (Value.int .i64)) ∧ l.length = len ∧ len ≤ maxLen ∧ ∀ n ∈ l, (Lit.int .i64 n).wf = true := by
  rcases open_ints ht he hc h with ⟨hcs, _⟩ | ⟨x, l, c, zs, hcs, hxb, hl, hm, hz, hdat, hcell, hwz⟩
  · obtain rfl : u = .slice none 0 0 := by simpa using hcs
    exact ⟨none, 0, 0, [], rfl, Cells.nil_ _ _ _, rfl, by unfold maxLen; omega, by intro s hs; simp at hs⟩
  · obtain rfl : u = .slice (some x) l c := by simpa using hcs
    have hz' : zs.length = c := by simpa using hz
    refine ⟨some x, l, c, zs.take l, rfl, ⟨by rw [List.length_map, List.length_take]; omega, fun _ => ⟨x, rfl, fun j u hu => ?_⟩⟩, by rw [List.length_take]; omega, by omega, fun s hs => hwz s (List.mem_of_mem_take hs)⟩
    rw [List.getElem?_map] at hu
    cases hj : (zs.take l)[j]? with
    | none => rw [hj] at hu; simp at hu
    | some y =>
      rw [hj] at hu
      obtain rfl : Value.int .i64 y = u := by simpa using hu
      have hjl := (List.getElem?_eq_some_iff.1 hj).1
      rw [List.length_take] at hjl
      rw [List.getElem?_take_of_lt (by omega)] at hj
      rw [hcell j (by omega), List.getD_eq_getElem?_getD, hj]; rfl
end
end Go.Proofs.Ytekacbjnpeglhaa.OpenNest

