/- FewestStamps: the law's plain function answers true. No condition. -/
import Derived.Test.YtdgbigkcophjoaaQCost
import Derived.Test.YtdgbigkcophjoaaGlFnExactFewestStamps
namespace Go.Proofs.Ytdgbigkcophjoaa.QFewest
set_option linter.unusedVariables false
set_option linter.unusedSimpArgs false
open Go.RowKit
open Go.Proofs.Ytdgbigkcophjoaa.GoP Go.Proofs.Ytdgbigkcophjoaa.PlainStamp Go.Proofs.Ytdgbigkcophjoaa.PlainCost Go.Proofs.Ytdgbigkcophjoaa.QBase Go.Proofs.Ytdgbigkcophjoaa.QLoop Go.Proofs.Ytdgbigkcophjoaa.QInt Go.Proofs.Ytdgbigkcophjoaa.QStamp Go.Proofs.Ytdgbigkcophjoaa.QCost

theorem least_eq (a b : Int) : GsL1Least.P a b = some (min a b) := by
  simp only [GsL1Least.P, letK, iteK_if]
  by_cases h : a < b
  · rw [if_pos (decide_eq_true h), show min a b = a by omega]
  · rw [if_neg (by rw [decide_eq_false h]; simp), show min a b = b by omega]
/-- the reference's table is filled right -/
theorem needed_eq (l : List St) (y : Int) (m fuel : Nat) (hok : Faces l) (hm : m ≤ 1048576) (hf : m < fuel) : ∃ tl, GsL2Needed.P fuel l (m : Int) y = some tl ∧ Tb 99 y l (m + 1) m tl := by
  simp only [GsL2Needed.P, letK]
  rw [wrap_in (by omega) (by omega), guardK_pos (by omega), show ((m : Int) + 1).toNat = m + 1 by omega]
  refine lp_ex (n := m) (Q := Tb 99 y l (m + 1) m) (fun k (s : List Int × Int) => s.2 = ((k + 1 : Nat) : Int) ∧ Tb 99 y l (m + 1) k s.1) ?_ ?_ fuel 0 _ (by omega) (by omega) ⟨rfl, by simp, fun u hu => ?_⟩
  · rintro k ⟨tl, v⟩ nx hk ⟨h1, h2⟩ hn
    dsimp only at h1 h2
    subst h1
    obtain ⟨x, hx, hi⟩ := at_lt (l := tl) (k := k + 1) (by rw [h2.1]; omega)
    simp only [GsL2Needed.l0, unp2, letK, iteK_if]
    rw [if_pos (decide_eq_true (by omega)), hi, Int.toNat_natCast]
    simp only [Option.bind_some]
    refine cnt_ex (n := l.length) (fun j s => Rw 99 y l (m + 1) k (sofar (cost 99 y l) 99 y (k + 1) l j) s) ?_ ?_ l.length 0 _ (by omega) (h2.start (by omega) 99)
    · intro j s nx2 hj hI hn2
      obtain ⟨q, hq, hiq⟩ := at_lt (l := l) (k := j) hj
      have hfq := hok q (List.mem_of_getElem? hq)
      have hle := sofar_le (cost 99 y l) 99 y (k + 1) l j
      simp only [GsL2Needed.l1, hiq, Option.bind_some, unStamp, letK, joinK, appK, iteK_if, least_eq]
      by_cases h0 : 0 < q.face
      · by_cases hc : q.face ≤ ((k + 1 : Nat) : Int)
        · by_cases hy : q.year ≤ y
          · obtain ⟨g, hg⟩ : ∃ g : Nat, q.face = g := ⟨q.face.toNat, by omega⟩
            have hiv : idx s ((k + 1 : Nat) : Int) = some ((sofar (cost 99 y l) 99 y (k + 1) l j : Nat) : Int) := by rw [idx_nat, hI.2]
            simp only [decide_eq_true hy, decide_eq_true hc, decide_eq_true h0, if_true, hiv, Option.bind_some]
            rw [wrap_in (by omega) (by omega), show ((k + 1 : Nat) : Int) - q.face = ((k + 1 - g : Nat) : Int) by omega, idx_nat, Int.toNat_natCast]
            have hcl := cost_le 99 y l (k + 1 - g)
            rw [hI.1.2 (k + 1 - g) (by omega)]
            simp only [Option.bind_some]
            rw [wrap_in (by omega) (by omega)]
            refine hn2 _ ?_
            rw [sofar_use hq (use_yes hy h0 hc), show q.face.toNat = g by omega]
            have e : min ((sofar (cost 99 y l) 99 y (k + 1) l j : Nat) : Int) (((cost 99 y l (k + 1 - g) : Nat) : Int) + 1) = ((min (sofar (cost 99 y l) 99 y (k + 1) l j) (cost 99 y l (k + 1 - g) + 1) : Nat) : Int) := by omega
            rw [e]
            exact hI.set (by omega) _
          · simp only [decide_eq_false hy, decide_eq_true hc, decide_eq_true h0, if_true, Bool.false_eq_true, if_false]
            refine hn2 _ ?_
            rw [sofar_not hq (use_no (by omega))]; exact hI
        · simp only [decide_eq_true h0, decide_eq_false hc, if_true, Bool.false_eq_true, if_false]
          refine hn2 _ ?_
          rw [sofar_not hq (use_no (by omega))]; exact hI
      · simp only [decide_eq_false h0, Bool.false_eq_true, if_false]
        refine hn2 _ ?_
        rw [sofar_not hq (use_no (by omega))]; exact hI
    · intro s hI
      simp only [GsL2Needed.e1, letK, appK]
      rw [wrap_in (by omega) (by omega)]
      exact hn _ ⟨by dsimp only; omega, hI.next⟩
  · rintro ⟨tl, v⟩ nx ⟨h1, h2⟩
    dsimp only at h1 h2
    subst h1
    refine ⟨tl, ?_, h2⟩
    simp only [GsL2Needed.l0, GsL2Needed.e0, unp2, letK, appK, iteK_if]
    rw [if_neg (by rw [decide_eq_false (by omega)]; simp)]
  · obtain rfl : u = 0 := by omega
    simp [cost_zero]

/-- fewer stamps to choose from: no cheaper -/
theorem cost_sub (cap : Nat) (y : Int) (l l' : List St) (hsub : ∀ s ∈ l', s ∈ l) : ∀ (n v : Nat), v ≤ n → cost cap y l v ≤ cost cap y l' v
  | 0, v, h => by obtain rfl : v = 0 := by omega
                  rw [cost_zero, cost_zero]; omega
  | n + 1, v, h => by
    by_cases h0 : 0 < v
    · rcases cost_is cap y l' h0 with e | ⟨s, hs, hu, e⟩
      · rw [e]; exact cost_le _ _ _ _
      · have u := use_of hu
        have a := cost_below cap y l (hsub s hs) hu
        have ih := cost_sub cap y l l' hsub n (v - s.face.toNat) (by omega)
        omega
    · obtain rfl : v = 0 := by omega
      rw [cost_zero, cost_zero]; omega

/-- the first place at which p holds -/
def firstF (p : Nat → Bool) : Nat → Nat → Nat
  | 0, k => k
  | m + 1, k => if p k then k else firstF p m (k + 1)
theorem firstF_is {p : Nat → Bool} {i : Nat} (hp : p i = true) (hb : ∀ j, j < i → p j = false) : ∀ (m k : Nat), k ≤ i → i < k + m → firstF p m k = i
  | 0, k, h1, h2 => by omega
  | m + 1, k, h1, h2 => by
    unfold firstF
    by_cases he : k = i
    · subst he; rw [if_pos hp]
    · rw [if_neg (by rw [hb k (by omega)]; simp)]; exact firstF_is hp hb m (k + 1) (by omega) (by omega)
theorem least_of {p : Nat → Bool} : ∀ (n i : Nat), i ≤ n → p i = true → ∃ j, j ≤ i ∧ p j = true ∧ ∀ q, q < j → p q = false
  | 0, i, h, hp => ⟨i, Nat.le_refl _, hp, fun q hq => by omega⟩
  | n + 1, i, h, hp => by
    by_cases he : ∃ j, j < i ∧ p j = true
    · obtain ⟨j, hj, hpj⟩ := he
      obtain ⟨q, h1, h2, h3⟩ := least_of n j (by omega) hpj
      exact ⟨q, by omega, h2, h3⟩
    · refine ⟨i, Nat.le_refl _, hp, fun q hq => ?_⟩
      cases hq2 : p q with
      | false => rfl
      | true => exact (he ⟨q, hq, hq2⟩).elim

section
variable (y : Int) (l : List St)
abbrev C (v : Nat) : Nat := cost 12000 y l v
/-- a stamp that lessens what is still wanted by one -/
def qual (v i : Nat) : Bool := match l[i]? with
  | none => false
  | some s => decide (s.year ≤ y) && (decide (s.face ≤ (v : Int)) && decide (C y l (v - s.face.toNat) + 1 = C y l v))
theorem qual_of {v i : Nat} {s : St} (hs : l[i]? = some s) (h : qual y l v i = true) : s.year ≤ y ∧ s.face ≤ (v : Int) ∧ C y l (v - s.face.toNat) + 1 = C y l v := by
  unfold qual at h; rw [hs] at h; simpa using h
theorem qual_yes {v i : Nat} {s : St} (hs : l[i]? = some s) (h1 : s.year ≤ y) (h2 : s.face ≤ (v : Int)) (h3 : C y l (v - s.face.toNat) + 1 = C y l v) : qual y l v i = true := by
  unfold qual; rw [hs]; simp [h1, h2, h3]
/-- the first of these -/
theorem first_ex {v : Nat} (hv : 0 < v) (hc : C y l v < 12000) : ∃ i s, l[i]? = some s ∧ qual y l v i = true ∧ ∀ j, j < i → qual y l v j = false := by
  have hc' : cost 12000 y l v < 12000 := hc
  rcases cost_is 12000 y l hv with e | ⟨s, hs, hu, e⟩
  · omega
  · obtain ⟨i, hi⟩ := List.getElem?_of_mem hs
    have u := use_of hu
    obtain ⟨j, h1, h2, h3⟩ := least_of i i (Nat.le_refl _) (qual_yes y l hi u.1 u.2.2 e.symm)
    have hj : j < l.length := by have := (List.getElem?_eq_some_iff.1 hi).1; omega
    exact ⟨j, l[j], List.getElem?_eq_getElem hj, h2, h3⟩
def fst_ (v : Nat) : Nat := firstF (qual y l v) l.length 0
def fr : Nat → Nat → List Int
  | 0, _ => []
  | n + 1, v => if v = 0 then [] else ((fst_ y l v : Nat) : Int) :: fr n (v - (match l[fst_ y l v]? with | none => v | some s => s.face.toNat))
variable {y l}
theorem fst_ex {v : Nat} (hv : 0 < v) (hc : C y l v < 12000) : ∃ s, l[fst_ y l v]? = some s ∧ qual y l v (fst_ y l v) = true ∧ ∀ j, j < fst_ y l v → qual y l v j = false := by
  obtain ⟨i, s, h1, h2, h3⟩ := first_ex y l hv hc
  have : fst_ y l v = i := firstF_is h2 h3 _ _ (by omega) (by have := (List.getElem?_eq_some_iff.1 h1).1; omega)
  rw [this]; exact ⟨s, h1, h2, h3⟩
theorem face_pos {v i : Nat} {s : St} (hs : l[i]? = some s) (hok : Faces l) (h : qual y l v i = true) : 0 < s.face ∧ s.face.toNat ≤ v ∧ use y v s = true := by
  obtain ⟨a, b, c⟩ := qual_of y l hs h
  have f := (hok s (List.mem_of_getElem? hs)).1
  have : 0 < s.face := by
    by_cases h0 : s.face = 0
    · rw [h0] at c; simp at c
    · omega
  exact ⟨this, by omega, use_yes a this b⟩
/-- the places do not fall -/
theorem fst_up (hok : Faces l) {v : Nat} {s : St} (hv : 0 < v) (hc : C y l v < 12000) (hs : l[fst_ y l v]? = some s) (hv2 : 0 < v - s.face.toNat) : fst_ y l v ≤ fst_ y l (v - s.face.toNat) := by
  obtain ⟨s', hs', hq, hmin⟩ := fst_ex hv hc
  obtain rfl : s = s' := Option.some.inj (hs.symm.trans hs')
  obtain ⟨p1, p2, p3⟩ := face_pos hs hok hq
  obtain ⟨q1, q2, q3⟩ := qual_of y l hs hq
  obtain ⟨t, ht, hqt, _⟩ := fst_ex (y := y) (l := l) hv2 (by omega)
  obtain ⟨r1, r2, r3⟩ := qual_of y l ht hqt
  obtain ⟨w1, w2, w3⟩ := face_pos ht hok hqt
  by_cases hlt : fst_ y l (v - s.face.toNat) < fst_ y l v
  · exfalso
    have hno := hmin _ hlt
    have hu : use y v t = true := use_yes r1 w1 (by omega)
    have a := cost_below 12000 y l (List.mem_of_getElem? ht) hu
    have hu2 : use y (v - t.face.toNat) s = true := use_yes q1 p1 (by omega)
    have b := cost_below 12000 y l (List.mem_of_getElem? hs) hu2
    rw [show v - t.face.toNat - s.face.toNat = v - s.face.toNat - t.face.toNat by omega] at b
    have := qual_yes y l ht r1 (by omega) (show C y l (v - t.face.toNat) + 1 = C y l v by show cost 12000 y l _ + 1 = cost 12000 y l _; have q3' : cost 12000 y l (v - s.face.toNat) + 1 = cost 12000 y l v := q3; have r3' : cost 12000 y l (v - s.face.toNat - t.face.toNat) + 1 = cost 12000 y l (v - s.face.toNat) := r3; omega)
    rw [this] at hno; exact absurd hno (by simp)
  · omega
theorem mem_drop_of {j i : Nat} {s : St} (hs : l[i]? = some s) (h : j ≤ i) : s ∈ l.drop j := by
  refine List.mem_iff_getElem?.2 ⟨i - j, ?_⟩
  rw [List.getElem?_drop, show j + (i - j) = i by omega]; exact hs
theorem drop_mem {j : Nat} : ∀ s ∈ l.drop j, s ∈ l := fun s hs => List.mem_of_mem_drop hs
/-- what is behind the first place is as good as all -/
theorem drop_same (hok : Faces l) : ∀ (n v j : Nat), v ≤ n → C y l v < 12000 → (v = 0 ∨ j ≤ fst_ y l v) → cost 12000 y (l.drop j) v = C y l v
  | 0, v, j, h, hc, hj => by obtain rfl : v = 0 := by omega
                             show _ = cost _ _ _ _
                             rw [cost_zero, cost_zero]
  | n + 1, v, j, h, hc, hj => by
    by_cases h0 : 0 < v
    · have hj' : j ≤ fst_ y l v := by omega
      obtain ⟨s, hs, hq, hmin⟩ := fst_ex h0 hc
      obtain ⟨p1, p2, p3⟩ := face_pos hs hok hq
      obtain ⟨q1, q2, q3⟩ := qual_of y l hs hq
      have hc2 : C y l (v - s.face.toNat) < 12000 := by omega
      have ih := drop_same hok n (v - s.face.toNat) j (by omega) hc2 (by
        by_cases hz : v - s.face.toNat = 0
        · exact .inl hz
        · exact .inr (Nat.le_trans hj' (fst_up hok h0 hc hs (by omega))))
      have a := cost_below 12000 y (l.drop j) (mem_drop_of hs hj') p3
      have b := cost_sub 12000 y l (l.drop j) drop_mem v v (Nat.le_refl _)
      rw [ih] at a
      show cost 12000 y (l.drop j) v = cost 12000 y l v
      have q3' : cost 12000 y l (v - s.face.toNat) + 1 = cost 12000 y l v := q3
      have a' : cost 12000 y (l.drop j) v ≤ cost 12000 y l (v - s.face.toNat) + 1 := a
      omega
    · obtain rfl : v = 0 := by omega
      show _ = cost _ _ _ _
      rw [cost_zero, cost_zero]
end
theorem fr_step {y : Int} {l : List St} {n v : Nat} {s : St} (hv : 0 < v) (hs : l[fst_ y l v]? = some s) : fr y l (n + 1) v = ((fst_ y l v : Nat) : Int) :: fr y l n (v - s.face.toNat) := by
  show (if v = 0 then _ else _) = _
  rw [if_neg (by omega), hs]
theorem index_eq (y : Int) (l : List St) (v n : Nat) (tl : List Int) (hok : Faces l) (hT : Tb 12000 y l n (n - 1) tl) (hn : v + 1 ≤ n) (hnn : n ≤ 1048576) (hv : 0 < v) (hc : C y l v < 12000) :
    GxSlicesIndexFuncLoopExampleG01062ImplStampLoopExampleG01062ImplStampiFirstFranking1.P l y (v : Int) tl = some ((fst_ y l v : Nat) : Int) := by
  obtain ⟨s, hs, hq, hmin⟩ := fst_ex hv hc
  have hlt := (List.getElem?_eq_some_iff.1 hs).1
  have step : ∀ k nx, k < l.length → GxSlicesIndexFuncLoopExampleG01062ImplStampLoopExampleG01062ImplStampiFirstFranking1.l0 l y (v : Int) tl k () nx GxSlicesIndexFuncLoopExampleG01062ImplStampLoopExampleG01062ImplStampiFirstFranking1.e0 = if qual y l v k then some (k : Int) else nx () := by
    intro k nx hk
    obtain ⟨x, hx, hi⟩ := at_lt (l := l) (k := k) hk
    have hfx := hok x (List.mem_of_getElem? hx)
    have hcv := cost_le 12000 y l v
    simp only [GxSlicesIndexFuncLoopExampleG01062ImplStampLoopExampleG01062ImplStampiFirstFranking1.l0, hi, Option.bind_some, unStamp, GiFirstFranking1.P, letK, joinK, appK, iteK_if]
    unfold qual
    rw [hx]
    by_cases h1 : x.year ≤ y
    · by_cases h2 : x.face ≤ (v : Int)
      · obtain ⟨g, hg⟩ : ∃ g : Nat, x.face = g := ⟨x.face.toNat, by omega⟩
        have hcg := cost_le 12000 y l (v - g)
        simp only [decide_eq_true h1, decide_eq_true h2, if_true, Bool.true_and]
        rw [wrap_in (by omega) (by omega), show (v : Int) - x.face = ((v - g : Nat) : Int) by omega, idx_nat, hT.2 _ (by omega), idx_nat, hT.2 _ (by omega)]
        simp only [Option.bind_some]
        rw [wrap_in (by omega) (by omega), show x.face.toNat = g by omega]
        have e : (((cost 12000 y l (v - g) : Nat) : Int) == ((cost 12000 y l v : Nat) : Int) - 1) = decide (C y l (v - g) + 1 = C y l v) := by
          rw [Bool.eq_iff_iff, beq_iff_eq, decide_eq_true_eq]
          show _ ↔ cost 12000 y l (v - g) + 1 = cost 12000 y l v
          omega
        rw [e]
      · simp [h1, h2]
    · simp [h1]
  simp only [GxSlicesIndexFuncLoopExampleG01062ImplStampLoopExampleG01062ImplStampiFirstFranking1.P]
  have key : ∀ m k, k + m = l.length → k ≤ fst_ y l v → cntK (GxSlicesIndexFuncLoopExampleG01062ImplStampLoopExampleG01062ImplStampiFirstFranking1.l0 l y (v : Int) tl) m k () GxSlicesIndexFuncLoopExampleG01062ImplStampLoopExampleG01062ImplStampiFirstFranking1.e0 = some ((fst_ y l v : Nat) : Int) := by
    intro m
    induction m with
    | zero => intro k hk hle; omega
    | succ m ih =>
      intro k hk hle
      show GxSlicesIndexFuncLoopExampleG01062ImplStampLoopExampleG01062ImplStampiFirstFranking1.l0 l y (v : Int) tl k () _ _ = _
      rw [step k _ (by omega)]
      by_cases he : k = fst_ y l v
      · rw [he, if_pos hq]
      · rw [if_neg (by rw [hmin k (by omega)]; simp)]
        exact ih (k + 1) (by omega) (by omega)
  exact key l.length 0 (by omega) (by omega)
set_option maxRecDepth 100000 in
theorem impl_loop (y : Int) (l : List St) (n : Nat) (tl : List Int) (hok : Faces l) (hl : l.length ≤ 1048576) (hT : Tb 12000 y l n (n - 1) tl) (hn : n ≤ 1048576) :
    ∀ (m v fuel : Nat) (out : List Int), v ≤ m → m < fuel → v + 1 ≤ n → C y l v < 12000 → out.length + v ≤ 1048576 → loopK (GiFirstFranking.l0 l y tl) fuel (out, (v : Int)) GiFirstFranking.e0 = some (out ++ fr y l m v) := by
  intro m
  induction m with
  | zero =>
    intro v fuel out h1 h2 h3 h4 h5
    obtain rfl : v = 0 := by omega
    obtain ⟨f, rfl⟩ : ∃ f, fuel = f + 1 := ⟨fuel - 1, by omega⟩
    show GiFirstFranking.l0 l y tl _ _ _ = _
    simp [GiFirstFranking.l0, GiFirstFranking.e0, unp2, letK, appK, iteK_if, fr]
  | succ m ih =>
    intro v fuel out h1 h2 h3 h4 h5
    obtain ⟨f, rfl⟩ : ∃ f, fuel = f + 1 := ⟨fuel - 1, by omega⟩
    show GiFirstFranking.l0 l y tl _ _ _ = _
    by_cases h0 : v = 0
    · subst h0
      simp [GiFirstFranking.l0, GiFirstFranking.e0, unp2, letK, appK, iteK_if, fr]
    · obtain ⟨s, hs, hq, hmin⟩ := fst_ex (y := y) (l := l) (show 0 < v by omega) h4
      obtain ⟨p1, p2, p3⟩ := face_pos hs hok hq
      obtain ⟨q1, q2, q3⟩ := qual_of y l hs hq
      simp only [GiFirstFranking.l0, unp2, letK, appK, iteK_if]
      rw [if_pos (decide_eq_true (by omega)), index_eq y l v n tl hok hT h3 hn (by omega) h4]
      simp only [Option.bind_some]
      rw [guardK_pos (by omega), idx_nat, hs]
      simp only [Option.bind_some, unStamp]
      rw [wrap_in (by omega) (by omega), show (v : Int) - s.face = ((v - s.face.toNat : Nat) : Int) by omega, ih (v - s.face.toNat) f _ (by omega) (by omega) (by omega) (by omega) (by rw [List.length_append, List.length_singleton]; omega), fr_step (by omega) hs]
      simp
theorem faces_drop {l : List St} (h : Faces l) (j : Nat) : Faces (l.drop j) := fun s hs => h s (List.mem_of_mem_drop hs)
theorem rest_eq (y : Int) (l : List St) (v : Nat) (N : Int) (fuel : Nat) (hok : Faces l) (hv : v ≤ 1048576) (hf : v < fuel) : GsL2Rest.P fuel l N (v : Int) y = some (((cost 99 y l v : Nat) : Int) == N) := by
  obtain ⟨tl, ht, hT⟩ := needed_eq l y v fuel hok hv hf
  simp only [GsL2Rest.P, ht, Option.bind_some, letK]
  rw [idx_nat, hT.2 v (Nat.le_refl _)]
  rfl
set_option maxRecDepth 100000 in
theorem spec_loop (y : Int) (l : List St) (n fuel0 : Nat) (tl : List Int) (hok : Faces l) (hl : l.length ≤ 1000) (hT : Tb 99 y l n (n - 1) tl) (hn : n ≤ 1048576) (hf0 : n < fuel0) :
    ∀ (t v fr_ m fuel : Nat) (out : List Int), v + (l.length - fr_) ≤ t → t < fuel → v ≤ m → v + 1 ≤ n → C y l v ≤ 40 → out.length + v ≤ 1048576 → (v = 0 ∨ fr_ ≤ fst_ y l v) →
      loopK (GsFewestStamps.l0 l y fuel0 tl) fuel ((v : Int), out, (fr_ : Int)) GsFewestStamps.e0 = some (out ++ fr y l m v, true) := by
  intro t
  induction t with
  | zero =>
    intro v fr_ m fuel out h1 h2 hm h3 h4 h5 h6
    obtain rfl : v = 0 := by omega
    obtain ⟨f, rfl⟩ : ∃ f, fuel = f + 1 := ⟨fuel - 1, by omega⟩
    show GsFewestStamps.l0 l y fuel0 tl _ _ _ = _
    cases m <;> simp [GsFewestStamps.l0, GsFewestStamps.e0, unp3, letK, appK, iteK_if, fr]
  | succ t ih =>
    intro v fr_ m fuel out h1 h2 hm h3 h4 h5 h6
    obtain ⟨f, rfl⟩ : ∃ f, fuel = f + 1 := ⟨fuel - 1, by omega⟩
    show GsFewestStamps.l0 l y fuel0 tl _ _ _ = _
    by_cases h0 : v = 0
    · subst h0
      cases m <;> simp [GsFewestStamps.l0, GsFewestStamps.e0, unp3, letK, appK, iteK_if, fr]
    · have hfr : fr_ ≤ fst_ y l v := by omega
      have hcv : C y l v < 12000 := by omega
      obtain ⟨s, hs, hq, hmin⟩ := fst_ex (y := y) (l := l) (show 0 < v by omega) hcv
      have hlt := (List.getElem?_eq_some_iff.1 hs).1
      obtain ⟨p1, p2, p3⟩ := face_pos hs hok hq
      obtain ⟨q1, q2, q3⟩ := qual_of y l hs hq
      obtain ⟨x, hx, hix⟩ := at_lt (l := l) (k := fr_) (by omega)
      have hfx := hok x (List.mem_of_getElem? hx)
      have hN : tl[v]? = some ((C y l v : Nat) : Int) := by
        rw [hT.2 v (by omega), cost_min 99 12000 y l (by omega) v v (Nat.le_refl _)]
        show some (((min 99 (C y l v)) : Nat) : Int) = _
        rw [show min 99 (C y l v) = C y l v by omega]
      obtain ⟨m2, rfl⟩ : ∃ m2, m = m2 + 1 := ⟨m - 1, by omega⟩
      simp only [GsFewestStamps.l0, unp3, hix, Option.bind_some, unStamp, letK, joinK, appK, iteK_if]
      rw [if_pos (decide_eq_true (by omega))]
      -- the test at this place
      have skip : fr_ < fst_ y l v → loopK (GsFewestStamps.l0 l y fuel0 tl) f ((v : Int), out, IntKind.i64.wrap ((fr_ : Int) + 1)) GsFewestStamps.e0 = some (out ++ fr y l (m2 + 1) v, true) := by
        intro hlt2
        rw [wrap_in (by omega) (by omega)]
        exact ih v (fr_ + 1) (m2 + 1) f out (by omega) (by omega) hm h3 h4 h5 (.inr (by omega))
      have take : fr_ = fst_ y l v → 0 < x.face ∧ x.face ≤ (v : Int) ∧ x.year ≤ y ∧ cost 12000 y (l.drop fr_) (v - x.face.toNat) + 1 = C y l v := by
        intro he
        subst he
        obtain rfl : s = x := Option.some.inj (hs.symm.trans hx)
        refine ⟨p1, q2, q1, ?_⟩
        rw [drop_same hok (v - s.face.toNat) (v - s.face.toNat) _ (Nat.le_refl _) (by omega) (by
          by_cases hz : v - s.face.toNat = 0
          · exact .inl hz
          · exact .inr (fst_up hok (by omega) hcv hs (by omega)))]
        exact q3
      by_cases c1 : 0 < x.face
      · by_cases c2 : x.face ≤ (v : Int)
        · by_cases c3 : x.year ≤ y
          · simp only [decide_eq_true c1, decide_eq_true c2, decide_eq_true c3, if_true]
            rw [guardK_pos (by omega), Int.toNat_natCast, idx_nat, hN]
            simp only [Option.bind_some]
            rw [wrap_in (by omega) (by omega), wrap_in (x := (v : Int) - x.face) (by omega) (by omega), show (v : Int) - x.face = ((v - x.face.toNat : Nat) : Int) by omega, rest_eq y (l.drop fr_) (v - x.face.toNat) _ fuel0 (faces_drop hok _) (by omega) (by omega)]
            simp only [Option.bind_some]
            have hmn := cost_min 99 12000 y (l.drop fr_) (by omega) (v - x.face.toNat) (v - x.face.toNat) (Nat.le_refl _)
            by_cases hb : (((cost 99 y (l.drop fr_) (v - x.face.toNat) : Nat) : Int) == ((C y l v : Nat) : Int) - 1) = true
            · have hb' : ((cost 99 y (l.drop fr_) (v - x.face.toNat) : Nat) : Int) = ((C y l v : Nat) : Int) - 1 := eq_of_beq hb
              rw [if_pos hb, guardK_pos (by omega)]
              have hsame : fr_ = fst_ y l v := by
                by_cases he : fr_ = fst_ y l v
                · exact he
                · exfalso
                  have hno := hmin fr_ (by omega)
                  have a := cost_sub 12000 y l (l.drop fr_) drop_mem (v - x.face.toNat) (v - x.face.toNat) (Nat.le_refl _)
                  have b := cost_below 12000 y l (List.mem_of_getElem? hx) (use_yes c3 c1 c2)
                  have := qual_yes y l hx c3 c2 (show C y l (v - x.face.toNat) + 1 = C y l v by show cost 12000 y l _ + 1 = cost 12000 y l _; have h4' : cost 12000 y l v ≤ 40 := h4; have hb2 : ((cost 99 y (l.drop fr_) (v - x.face.toNat) : Nat) : Int) = ((cost 12000 y l v : Nat) : Int) - 1 := hb'; omega)
                  rw [this] at hno; exact absurd hno (by simp)
              obtain rfl : s = x := by rw [hsame] at hx; exact Option.some.inj (hs.symm.trans hx)
              rw [ih (v - s.face.toNat) fr_ m2 f _ (by omega) (by omega) (by omega) (by omega) (by omega) (by rw [List.length_append, List.length_singleton]; omega) (by
                by_cases hz : v - s.face.toNat = 0
                · exact .inl hz
                · exact .inr (by rw [hsame]; exact fst_up hok (by omega) hcv hs (by omega))), fr_step (by omega) hs, ← hsame]
              simp
            · rw [if_neg hb]
              refine skip ?_
              by_cases he : fr_ = fst_ y l v
              · exfalso
                have tk := (take he).2.2.2
                refine hb (beq_iff_eq.2 ?_)
                have h4' : cost 12000 y l v ≤ 40 := h4
                have tk' : cost 12000 y (l.drop fr_) (v - x.face.toNat) + 1 = cost 12000 y l v := tk
                show ((cost 99 y (l.drop fr_) (v - x.face.toNat) : Nat) : Int) = ((cost 12000 y l v : Nat) : Int) - 1
                omega
              · omega
          · simp only [decide_eq_true c1, decide_eq_true c2, decide_eq_false c3, if_true, Bool.false_eq_true, if_false]
            refine skip ?_
            by_cases he : fr_ = fst_ y l v
            · exact (c3 (take he).2.2.1).elim
            · omega
        · simp only [decide_eq_true c1, decide_eq_false c2, if_true, Bool.false_eq_true, if_false]
          refine skip ?_
          by_cases he : fr_ = fst_ y l v
          · exact (c2 (take he).2.1).elim
          · omega
      · simp only [decide_eq_false c1, Bool.false_eq_true, if_false]
        refine skip ?_
        by_cases he : fr_ = fst_ y l v
        · exact (c1 (take he).1).elim
        · omega
def fewRes (l : List St) (r : Int) (y : Int) : List Int × Bool :=
  if okS l && (inB r 1 2000 && (inB y 1840 2100 && decide (C y l r.toNat ≤ 40))) then (fr y l r.toNat r.toNat, true) else ([], false)
theorem fr_len (y : Int) (l : List St) : ∀ n v, (fr y l n v).length ≤ n
  | 0, v => by simp [fr]
  | n + 1, v => by
    unfold fr
    split
    · simp
    · rw [List.length_cons]; have := fr_len y l n (v - (match l[fst_ y l v]? with | none => v | some s => s.face.toNat)); omega
theorem fewRes_len (l : List St) (r : Int) (y : Int) : (fewRes l r y).1.length ≤ 1048576 := by
  unfold fewRes; split
  · rename_i h
    simp only [Bool.and_eq_true] at h
    have := inB_of h.2.1
    have := fr_len y l r.toNat r.toNat
    simp only; omega
  · simp
set_option maxRecDepth 100000 in
theorem impl_eq (l : List St) (r y : Int) (fuel : Nat) (hf : 1048577 ≤ fuel) : GiFewestStamps.P fuel l r y = some (fewRes l r y) := by
  simp only [GiFewestStamps.P, areStamps_eq, within_eq, Option.bind_some, letK, joinK, appK, iteK_if, fewRes]
  cases hok : okS l with
  | false => simp
  | true =>
    cases hr : inB r 1 2000 with
    | false => simp
    | true =>
      cases hy : inB y 1840 2100 with
      | false => simp
      | true =>
        have hb := inB_of hr
        have hlen := upL_len hok
        obtain ⟨n, rfl⟩ : ∃ n : Nat, r = n := ⟨r.toNat, by omega⟩
        obtain ⟨tl, ht, hT⟩ := fewest_eq l y n fuel (faces_of hok) (by omega) (by omega)
        simp only [ht, Bool.not_true, Bool.false_eq_true, if_false, Bool.true_and, Option.bind_some, Int.toNat_natCast]
        rw [idx_nat, hT.2 n (Nat.le_refl _)]
        simp only [Option.bind_some]
        by_cases hc : C y l n ≤ 40
        · have hc' : cost 12000 y l n ≤ 40 := hc
          rw [if_neg (by rw [decide_eq_false (by omega)]; simp), if_pos (decide_eq_true hc)]
          simp only [GiFirstFranking.P]
          rw [impl_loop y l (n + 1) tl (faces_of hok) (by omega) hT (by omega) n n fuel [] (Nat.le_refl _) (by omega) (by omega) (by omega) (by simp; omega)]
          simp
        · have hc' : ¬ cost 12000 y l n ≤ 40 := hc
          rw [if_pos (decide_eq_true (by omega)), if_neg (by rw [decide_eq_false hc]; simp)]
set_option maxRecDepth 100000 in
theorem spec_eq (l : List St) (r y : Int) (fuel : Nat) (hf : 1048577 ≤ fuel) (hz : l.length ≤ 9223372036854775807) : GsFewestStamps.P fuel l r y = some (fewRes l r y) := by
  simp only [GsFewestStamps.P, l2Stamps_eq l hz, GsL2Year.P, l1In_eq, Option.bind_some, letK, joinK, appK, iteK_if, fewRes]
  cases hok : okS l with
  | false => simp
  | true =>
    cases hr : inB r 1 2000 with
    | false => simp
    | true =>
      cases hy : inB y 1840 2100 with
      | false => simp
      | true =>
        have hb := inB_of hr
        have hlen := upL_len hok
        obtain ⟨n, rfl⟩ : ∃ n : Nat, r = n := ⟨r.toNat, by omega⟩
        obtain ⟨tl, ht, hT⟩ := needed_eq l y n fuel (faces_of hok) (by omega) (by omega)
        have hmn := cost_min 99 12000 y l (by omega) n n (Nat.le_refl _)
        simp only [ht, Bool.not_true, Bool.false_eq_true, if_false, Bool.true_and, Option.bind_some, Int.toNat_natCast]
        rw [idx_nat, hT.2 n (Nat.le_refl _)]
        simp only [Option.bind_some]
        by_cases hc : C y l n ≤ 40
        · have hc' : cost 12000 y l n ≤ 40 := hc
          rw [if_neg (by rw [decide_eq_false (by omega)]; simp), if_pos (decide_eq_true hc)]
          have := spec_loop y l (n + 1) fuel tl (faces_of hok) (by omega) hT (by omega) (by omega) (n + l.length) n 0 n fuel [] (by omega) (by omega) (Nat.le_refl _) (by omega) hc (by simp; omega) (.inr (Nat.zero_le _))
          simpa using this
        · have hc' : ¬ cost 12000 y l n ≤ 40 := hc
          rw [if_pos (decide_eq_true (by omega)), if_neg (by rw [decide_eq_false hc]; simp)]
theorem law_fewest (l : List St) (r y : Int) (hl : l.length ≤ 9223372036854775807) : GlFnExactFewestStamps.P 1048577 l r y = some true := by
  simp only [GlFnExactFewestStamps.P, szS l hl, Option.bind_some, letK, iteK_if]
  by_cases hb : l.length ≤ 1048576
  · rw [if_pos hb]
    have h0 : ¬ ((1048576 : Int) - (l.length : Int) < 0) := by omega
    obtain ⟨⟨a, b⟩, hr⟩ : ∃ x, x = fewRes l r y := ⟨_, rfl⟩
    have hlen : a.length ≤ 1099511627776 := by have := fewRes_len l r y; rw [← hr] at this; dsimp only at this; omega
    obtain ⟨v2, l2, hk, hv2⟩ := markS l hb
    have hv3 : ¬ v2 < 0 := by omega
    have hv4 : ¬ (a.length : Int) + 1 < 0 := by omega
    simp [h0, toS l hb, spec_eq l r y 1048577 (by omega) hl, impl_eq l r y 1048577 (by omega), ← hr, bind2, joinK, appK, iteK_if, eqS, eqI, hk, hv3, markI a hlen, heldI a.length hlen, hv4]
  · rw [if_neg hb]; rfl
end Go.Proofs.Ytdgbigkcophjoaa.QFewest
