/- Plain words on the least number of stamps that have just a value together: the table that is filled value by value. No condition. -/
import Derived.Test.YtdgbigkcophjoaaPlainStamp
namespace Go.Proofs.Ytdgbigkcophjoaa.PlainCost
set_option linter.unusedVariables false
open Go.Proofs.Ytdgbigkcophjoaa.PlainStamp

/-- a stamp can be laid into a value: it was issued by a year, has a face, and this is no more than the value -/
def use (y : Int) (v : Nat) (s : St) : Bool := decide (s.year ≤ y ∧ 0 < s.face ∧ s.face ≤ (v : Int))
theorem use_yes {y : Int} {v : Nat} {s : St} (h1 : s.year ≤ y) (h2 : 0 < s.face) (h3 : s.face ≤ (v : Int)) : use y v s = true := by unfold use; exact decide_eq_true ⟨h1, h2, h3⟩
theorem use_of {y : Int} {v : Nat} {s : St} (h : use y v s = true) : s.year ≤ y ∧ 0 < s.face ∧ s.face ≤ (v : Int) := by unfold use at h; exact of_decide_eq_true h
theorem use_no {y : Int} {v : Nat} {s : St} (h : ¬ (s.year ≤ y ∧ 0 < s.face ∧ s.face ≤ (v : Int))) : use y v s = false := by unfold use; exact decide_eq_false h

/-- what one stamp makes of the number so far -/
def relax (T : Nat → Nat) (y : Int) (v : Nat) (t : Nat) (s : St) : Nat := if use y v s then min t (T (v - s.face.toNat) + 1) else t
def inner (T : Nat → Nat) (cap : Nat) (y : Int) (v : Nat) (l : List St) : Nat := l.foldl (relax T y v) cap
/-- the table, right up to n -/
def tab (cap : Nat) (y : Int) (l : List St) : Nat → Nat → Nat
  | 0 => fun _ => 0
  | n + 1 => fun u => if u = n + 1 then inner (tab cap y l n) cap y (n + 1) l else tab cap y l n u
/-- the least number of stamps with just the value v, or cap -/
def cost (cap : Nat) (y : Int) (l : List St) (v : Nat) : Nat := tab cap y l v v

theorem tab_le (cap : Nat) (y : Int) (l : List St) : ∀ n u, u ≤ n → tab cap y l n u = cost cap y l u
  | 0, u, h => by obtain rfl : u = 0 := by omega
                  rfl
  | n + 1, u, h => by
    by_cases e : u = n + 1
    · subst e; rfl
    · show (if u = n + 1 then _ else _) = _
      rw [if_neg e]; exact tab_le cap y l n u (by omega)
theorem cost_zero (cap : Nat) (y : Int) (l : List St) : cost cap y l 0 = 0 := rfl
theorem relax_congr {T T' : Nat → Nat} {y : Int} {v t : Nat} {s : St} (h : ∀ u, u < v → T u = T' u) : relax T y v t s = relax T' y v t s := by
  unfold relax
  by_cases hu : use y v s = true
  · rw [if_pos hu, if_pos hu, h _ (by have := use_of hu; omega)]
  · rw [if_neg hu, if_neg hu]
theorem inner_congr {T T' : Nat → Nat} {y : Int} {v : Nat} (h : ∀ u, u < v → T u = T' u) : ∀ (l : List St) (t : Nat), l.foldl (relax T y v) t = l.foldl (relax T' y v) t
  | [], t => rfl
  | s :: l, t => by rw [List.foldl_cons, List.foldl_cons, relax_congr h]; exact inner_congr h l _
theorem cost_succ (cap : Nat) (y : Int) (l : List St) (v : Nat) : cost cap y l (v + 1) = inner (cost cap y l) cap y (v + 1) l := by
  show (if v + 1 = v + 1 then _ else _) = _
  rw [if_pos rfl]
  exact inner_congr (fun u hu => tab_le cap y l v u (by omega)) l cap
theorem cost_eq (cap : Nat) (y : Int) (l : List St) {v : Nat} (h : 0 < v) : cost cap y l v = inner (cost cap y l) cap y v l := by
  obtain ⟨u, rfl⟩ : ∃ u, v = u + 1 := ⟨v - 1, by omega⟩
  exact cost_succ cap y l u

/-- the number so far, behind the first k stamps -/
def sofar (T : Nat → Nat) (cap : Nat) (y : Int) (v : Nat) (l : List St) (k : Nat) : Nat := (l.take k).foldl (relax T y v) cap
theorem sofar_zero (T : Nat → Nat) (cap : Nat) (y : Int) (v : Nat) (l : List St) : sofar T cap y v l 0 = cap := rfl
theorem sofar_succ {T : Nat → Nat} {cap : Nat} {y : Int} {v : Nat} {l : List St} {k : Nat} {s : St} (hs : l[k]? = some s) : sofar T cap y v l (k + 1) = relax T y v (sofar T cap y v l k) s := by
  have hk := List.getElem?_eq_some_iff.1 hs
  unfold sofar
  rw [List.take_succ_eq_append_getElem hk.1, hk.2, List.foldl_append]; rfl
theorem sofar_use {T : Nat → Nat} {cap : Nat} {y : Int} {v : Nat} {l : List St} {k : Nat} {s : St} (hs : l[k]? = some s) (hu : use y v s = true) : sofar T cap y v l (k + 1) = min (sofar T cap y v l k) (T (v - s.face.toNat) + 1) := by
  rw [sofar_succ hs]; unfold relax; rw [if_pos hu]
theorem sofar_not {T : Nat → Nat} {cap : Nat} {y : Int} {v : Nat} {l : List St} {k : Nat} {s : St} (hs : l[k]? = some s) (hu : use y v s = false) : sofar T cap y v l (k + 1) = sofar T cap y v l k := by
  rw [sofar_succ hs]; unfold relax; rw [if_neg (by rw [hu]; simp)]
theorem sofar_all (T : Nat → Nat) (cap : Nat) (y : Int) (v : Nat) (l : List St) : sofar T cap y v l l.length = inner T cap y v l := by unfold sofar inner; rw [List.take_of_length_le (Nat.le_refl _)]
theorem fold_le (T : Nat → Nat) (y : Int) (v : Nat) : ∀ (l : List St) (t : Nat), l.foldl (relax T y v) t ≤ t
  | [], t => Nat.le_refl _
  | s :: l, t => by
    rw [List.foldl_cons]
    refine Nat.le_trans (fold_le T y v l _) ?_
    unfold relax; split <;> omega
theorem sofar_le (T : Nat → Nat) (cap : Nat) (y : Int) (v : Nat) (l : List St) (k : Nat) : sofar T cap y v l k ≤ cap := fold_le T y v _ _
theorem cost_le (cap : Nat) (y : Int) (l : List St) (v : Nat) : cost cap y l v ≤ cap := by
  by_cases h : 0 < v
  · rw [cost_eq cap y l h]; exact fold_le _ _ _ _ _
  · obtain rfl : v = 0 := by omega
    rw [cost_zero]; omega

/-- what the fold is: the cap, or what one of its stamps makes -/
theorem fold_is (T : Nat → Nat) (y : Int) (v : Nat) : ∀ (l : List St) (t : Nat), l.foldl (relax T y v) t = t ∨ ∃ s ∈ l, use y v s = true ∧ l.foldl (relax T y v) t = T (v - s.face.toNat) + 1
  | [], t => .inl rfl
  | s :: l, t => by
    rw [List.foldl_cons]
    rcases fold_is T y v l (relax T y v t s) with h | ⟨r, hr, hu, h⟩
    · rw [h]
      unfold relax
      by_cases hu : use y v s = true
      · rw [if_pos hu]
        by_cases hm : t ≤ T (v - s.face.toNat) + 1
        · exact .inl (by omega)
        · exact .inr ⟨s, by simp, hu, by omega⟩
      · rw [if_neg hu]; exact .inl rfl
    · exact .inr ⟨r, by simp [hr], hu, h⟩
theorem fold_below (T : Nat → Nat) (y : Int) (v : Nat) : ∀ (l : List St) (t : Nat) (s : St), s ∈ l → use y v s = true → l.foldl (relax T y v) t ≤ T (v - s.face.toNat) + 1
  | [], t, s, h, _ => by simp at h
  | r :: l, t, s, h, hu => by
    rw [List.foldl_cons]
    rcases List.mem_cons.1 h with rfl | h
    · refine Nat.le_trans (fold_le T y v l _) ?_
      unfold relax; rw [if_pos hu]; omega
    · exact fold_below T y v l _ s h hu

theorem cost_is (cap : Nat) (y : Int) (l : List St) {v : Nat} (h : 0 < v) : cost cap y l v = cap ∨ ∃ s ∈ l, use y v s = true ∧ cost cap y l v = cost cap y l (v - s.face.toNat) + 1 := by
  rw [cost_eq cap y l h]; exact fold_is _ _ _ _ _
theorem cost_below (cap : Nat) (y : Int) (l : List St) {v : Nat} {s : St} (hs : s ∈ l) (hu : use y v s = true) : cost cap y l v ≤ cost cap y l (v - s.face.toNat) + 1 := by
  rw [cost_eq cap y l (by have := use_of hu; omega)]; exact fold_below _ _ _ _ _ _ hs hu
/-- below the cap it is no more than the value -/
theorem cost_small (cap : Nat) (y : Int) (l : List St) : ∀ (n v : Nat), v ≤ n → cost cap y l v < cap → cost cap y l v ≤ v
  | 0, v, h, _ => by obtain rfl : v = 0 := by omega
                     rw [cost_zero]; omega
  | n + 1, v, h, hc => by
    by_cases h0 : 0 < v
    · rcases cost_is cap y l h0 with e | ⟨s, hs, hu, e⟩
      · omega
      · have u := use_of hu
        have := cost_small cap y l n (v - s.face.toNat) (by omega) (by omega)
        omega
    · obtain rfl : v = 0 := by omega
      rw [cost_zero]; omega
/-- at two caps -/
theorem cost_min (c d : Nat) (y : Int) (l : List St) (hcd : c ≤ d) : ∀ (n v : Nat), v ≤ n → cost c y l v = min c (cost d y l v)
  | 0, v, h => by obtain rfl : v = 0 := by omega
                  rw [cost_zero, cost_zero]; omega
  | n + 1, v, h => by
    by_cases h0 : 0 < v
    · have a1 := cost_le c y l v
      have a2 := cost_le d y l v
      apply Nat.le_antisymm
      · refine Nat.le_min.2 ⟨a1, ?_⟩
        rcases cost_is d y l h0 with e | ⟨s, hs, hu, e⟩
        · omega
        · have u := use_of hu
          have b := cost_below c y l hs hu
          have ih := cost_min c d y l hcd n (v - s.face.toNat) (by omega)
          omega
      · rcases cost_is c y l h0 with e | ⟨s, hs, hu, e⟩
        · omega
        · have u := use_of hu
          have b := cost_below d y l hs hu
          have ih := cost_min c d y l hcd n (v - s.face.toNat) (by omega)
          omega
    · obtain rfl : v = 0 := by omega
      rw [cost_zero, cost_zero]; omega
end Go.Proofs.Ytdgbigkcophjoaa.PlainCost
