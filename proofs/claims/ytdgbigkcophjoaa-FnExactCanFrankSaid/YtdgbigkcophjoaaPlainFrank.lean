/- Plain words on the rates that can be franked. No condition. -/
import Derived.Test.YtdgbigkcophjoaaPlainCost
namespace Go.Proofs.Ytdgbigkcophjoaa.PlainFrank
set_option linter.unusedVariables false
open Go.Proofs.Ytdgbigkcophjoaa.PlainStamp Go.Proofs.Ytdgbigkcophjoaa.PlainCost

/-- the value can be made -/
def good (l : List St) (v : Nat) : Bool := decide (cost 12000 2100 l v < 12000)
theorem good_zero (l : List St) : good l 0 = true := by unfold good; rw [cost_zero]; rfl
/-- the rates below v that can be made, from 1 on -/
def rates (l : List St) (v : Nat) : List Int := ((List.range v).filter fun u => decide (0 < u) && good l u).map fun u => ((u : Nat) : Int)
theorem rates_one (l : List St) : rates l 1 = [] := by unfold rates; simp
theorem rates_yes {l : List St} {v : Nat} (hv : 0 < v) (h : good l v = true) : rates l (v + 1) = rates l v ++ [(v : Int)] := by
  unfold rates; rw [List.range_succ, List.filter_append, List.map_append]; simp [h, hv]
theorem rates_no {l : List St} {v : Nat} (h : good l v = false) : rates l (v + 1) = rates l v := by
  unfold rates; rw [List.range_succ, List.filter_append, List.map_append]; simp [h]
theorem rates_len (l : List St) (v : Nat) : (rates l v).length ≤ v := by
  unfold rates; rw [List.length_map]
  have := List.length_filter_le (fun u => decide (0 < u) && good l u) (List.range v)
  rw [List.length_range] at this; exact this
def franks (l : List St) (m : Int) : List Int × Bool := if okSts l && inB m 1 500 then (rates l (m.toNat + 1), true) else ([], false)
theorem franks_yes {l : List St} {m : Nat} (h1 : okSts l = true) (h2 : inB (m : Int) 1 500 = true) : franks l m = (rates l (m + 1), true) := by unfold franks; rw [h1, h2]; rfl
theorem franks_no1 {l : List St} {m : Int} (h1 : okSts l = false) : franks l m = ([], false) := by unfold franks; rw [h1]; rfl
theorem franks_no2 {l : List St} {m : Int} (h2 : inB m 1 500 = false) : franks l m = ([], false) := by unfold franks; rw [h2]; simp
theorem franks_len (l : List St) (m : Int) : (franks l m).1.length ≤ 1048576 := by
  unfold franks; split
  · rename_i h
    simp only [Bool.and_eq_true] at h
    have := inB_of h.2
    have := rates_len l (m.toNat + 1)
    simp only; omega
  · simp

/-- one of the first k stamps leaves a value that can be made -/
def hits (l : List St) (v k : Nat) : Bool := (l.take k).any fun s => use 2100 v s && good l (v - s.face.toNat)
theorem hits_zero (l : List St) (v : Nat) : hits l v 0 = false := by simp [hits]
theorem hits_succ {l : List St} {v k : Nat} {s : St} (hs : l[k]? = some s) : hits l v (k + 1) = (hits l v k || (use 2100 v s && good l (v - s.face.toNat))) := by
  have hk := List.getElem?_eq_some_iff.1 hs
  unfold hits
  rw [List.take_succ_eq_append_getElem hk.1, hk.2, List.any_append]; simp
theorem hits_all (l : List St) {v : Nat} (h0 : 0 < v) (h1 : v < 12000) : hits l v l.length = good l v := by
  unfold hits
  rw [List.take_of_length_le (Nat.le_refl _), Bool.eq_iff_iff]
  constructor
  · intro h
    obtain ⟨s, hs, h⟩ := List.any_eq_true.1 h
    simp only [Bool.and_eq_true] at h
    have u := use_of h.1
    have g : cost 12000 2100 l (v - s.face.toNat) < 12000 := by have := h.2; unfold good at this; exact of_decide_eq_true this
    have b := cost_small 12000 2100 l _ _ (Nat.le_refl _) g
    have c := cost_below 12000 2100 l hs h.1
    unfold good; exact decide_eq_true (by omega)
  · intro h
    have g : cost 12000 2100 l v < 12000 := by unfold good at h; exact of_decide_eq_true h
    rcases cost_is 12000 2100 l h0 with e | ⟨s, hs, hu, e⟩
    · omega
    · exact List.any_eq_true.2 ⟨s, hs, by rw [hu]; unfold good; simp; omega⟩
/-- the reference's table while the value v is looked at, behind k stamps -/
def tbl (l : List St) (v k u : Nat) : Bool := if u < v then good l u else if u = v then hits l v k else false
theorem tbl_next (l : List St) {v : Nat} (h0 : 0 < v) (h1 : v < 12000) (u : Nat) : tbl l v l.length u = tbl l (v + 1) 0 u := by
  unfold tbl
  rw [hits_all l h0 h1, hits_zero]
  by_cases a : u < v
  · rw [if_pos a, if_pos (by omega)]
  · rw [if_neg a]
    by_cases b : u = v
    · subst b; rw [if_pos rfl, if_pos (by omega)]
    · rw [if_neg b, if_neg (by omega)]; simp
theorem tbl_hit {l : List St} {v k : Nat} {s : St} (hs : l[k]? = some s) (h : (use 2100 v s && good l (v - s.face.toNat)) = true) (u : Nat) : (if u = v then true else tbl l v k u) = tbl l v (k + 1) u := by
  unfold tbl
  rw [hits_succ hs, h]
  by_cases b : u = v
  · subst b; simp
  · simp [b]
theorem tbl_miss {l : List St} {v k : Nat} {s : St} (hs : l[k]? = some s) (h : (use 2100 v s && good l (v - s.face.toNat)) = false) (u : Nat) : tbl l v k u = tbl l v (k + 1) u := by
  unfold tbl
  rw [hits_succ hs, h]; simp
theorem tbl_below {l : List St} {v k u : Nat} (h : u < v) : tbl l v k u = good l u := by unfold tbl; rw [if_pos h]
theorem tbl_start (l : List St) (u : Nat) : (if u = 0 then true else false) = tbl l 1 0 u := by
  unfold tbl
  rw [hits_zero]
  by_cases b : u = 0
  · subst b; simp [good_zero]
  · simp [b]
end Go.Proofs.Ytdgbigkcophjoaa.PlainFrank
