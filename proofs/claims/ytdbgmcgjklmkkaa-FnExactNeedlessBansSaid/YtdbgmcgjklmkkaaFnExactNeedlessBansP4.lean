/- The texts on which the proof of FnExactNeedlessBans stands, one behind the other (4 of 4). No condition of their own. -/
import Derived.Test.YtdbgmcgjklmkkaaFnExactNeedlessBansP3
import Derived.Test.YtdbgmcgjklmkkaaFnExactNeedlessBansP1
import Derived.Test.YtdbgmcgjklmkkaaFnExactNeedlessBansP2
import Derived.SliceStrings
import Derived.ChangeSlices
/- Chapter 6: kinds in their order, as numbers: the program's search and the reference's. (Q6Adv) No condition but those of each theorem. -/
namespace Go.Proofs.Ytdbgmcgjklmkkaa.Q6Adv
set_option linter.unusedVariables false
set_option linter.unusedSimpArgs false
open Go.RowKit
open Go.Proofs.Ytdbgmcgjklmkkaa.GoP Go.Proofs.Ytdbgmcgjklmkkaa.PlainStamp Go.Proofs.Ytdbgmcgjklmkkaa.QBase Go.Proofs.Ytdbgmcgjklmkkaa.Q6Num Go.Proofs.Ytdbgmcgjklmkkaa.Q6Kind Go.Proofs.Ytdbgmcgjklmkkaa.Q6Tab Go.Proofs.Ytdbgmcgjklmkkaa.Q6Ban Go.Proofs.Ytdbgmcgjklmkkaa.QLoop Go.Proofs.Ytdbgmcgjklmkkaa.QAll Go.Proofs.Ytdbgmcgjklmkkaa.PBan

theorem advance_eq {s k : List Int} (hs : okS s = true) (hl : s.length ≤ 5) (hk : okK s k = true) {t : Nat} (ht : t < s.length) (fuel : Nat) (hf : 7 ≤ fuel) :
    ∃ ok k', GiAdvance.P fuel s k (t : Int) = some (ok, k') ∧ (ok = true → okK s k' = true ∧ num s k' = blockEnd s k t) ∧ (ok = false → prod s = blockEnd s k t) := by
  have hlen := okK_len hk
  have hp := pos_of hs
  obtain ⟨⟨ok, k'⟩, h, hq⟩ : ∃ r : Bool × List Int, GiAdvance.P fuel s k (t : Int) = some r ∧ ((r.1 = true → okK s r.2 = true ∧ num s r.2 = blockEnd s k t) ∧ (r.1 = false → prod s = blockEnd s k t)) := by
    simp only [GiAdvance.P, letK]
    rw [wrap_in (by omega) (by omega), guardK_pos (by omega), show Int.toNat ((t : Int) + 1) = t + 1 by omega]
    refine lp_ex (n := t + 1) (fun j (st : List Int × Int) => st.2 = (t : Int) - (j : Int) ∧ st.1 = k.take (t + 1 - j) ++ List.replicate (k.length - (t + 1 - j)) 0 ∧
      (num (s.take (t + 1 - j)) (k.take (t + 1 - j)) + 1) * prod (s.drop (t + 1 - j)) = blockEnd s k t) ?_ ?_ fuel 0 _ (by omega) (by omega) ⟨by simp, by simp, by simp [blockEnd]⟩
    · rintro j ⟨l, i⟩ nx hj ⟨h1, h2, h3⟩ hn
      dsimp only at h1 h2 h3
      obtain ⟨m, hm⟩ : ∃ m, m = t - j := ⟨_, rfl⟩
      have hi : i = (m : Int) := by omega
      rw [show t + 1 - j = m + 1 by omega] at h2 h3
      subst hi
      obtain ⟨v, hv, _⟩ := at_lt (l := k) (k := m) (by omega)
      obtain ⟨z, hz, hzi⟩ := at_lt (l := s) (k := m) (by omega)
      have hvz := okK_at hk hz hv
      have hz5 := okS_at hs hz
      have e0 : idx l (m : Int) = some v := by
        rw [h2, take_next hv, List.append_assoc]
        exact idx_mid (by omega)
      have e1 : l.set m (v + 1) = k.take m ++ ((v + 1) :: List.replicate (k.length - (m + 1)) 0) := by rw [h2]; exact set_mid hv
      have hc : decide ((0 : Int) ≤ (m : Int)) = true := by simp
      have hN : num (s.take (m + 1)) (k.take (m + 1)) = num (s.take m) (k.take m) * z + v := by
        rw [take_next hz, take_next hv]; exact num_snoc z v (okK_len (okK_take hk m))
      simp only [GiAdvance.l0, unp2, letK, hc, iteK_if, if_true, e0, Option.bind_some, Int.toNat_natCast]
      rw [wrap_in (by omega) (by omega), e1, idx_mid (by omega)]
      simp only [hzi, Option.bind_some]
      by_cases hlt : v + 1 < z
      · rw [if_pos (by simpa using hlt)]
        have hzr : k.length - (m + 1) = (s.drop (m + 1)).length := by rw [List.length_drop]; omega
        have hS : s = s.take m ++ (z :: s.drop (m + 1)) := by rw [← drop_at hz, List.take_append_drop]
        refine ⟨_, rfl, fun _ => ⟨?_, ?_⟩, fun h => by simp at h⟩
        · rw [hS, hzr]
          have := okK_append (okK_take hk m) (okK_cons.2 ⟨⟨by omega, hlt⟩, okK_zeros (pos_drop hp (m + 1))⟩)
          rw [← hS]
          exact (by rw [← hS] at this; exact this)
        · dsimp only
          have e2 := num_append (s1 := s.take m) (k1 := k.take m) (z :: s.drop (m + 1)) ((v + 1) :: List.replicate (k.length - (m + 1)) 0) (okK_len (okK_take hk m))
          rw [← hS] at e2
          rw [e2]
          simp only [num, prod]
          rw [hzr, num_zeros, ← h3, hN, Int.add_mul, Int.add_mul, Int.add_mul, Int.mul_assoc]
          omega
      · rw [if_neg (by simpa using hlt)]
        have hvz2 : v + 1 = z := by omega
        simp only [appK]
        have e3 : (k.take m ++ ((v + 1) :: List.replicate (k.length - (m + 1)) 0)).set m 0 = k.take m ++ List.replicate (k.length - m) 0 := by
          rw [List.set_append_right _ _ (by rw [List.length_take]; omega), List.length_take, Nat.min_eq_left (by omega), Nat.sub_self, show k.length - m = k.length - (m + 1) + 1 by omega, List.replicate_succ]
          rfl
        rw [e3, wrap_in (by omega) (by omega)]
        refine hn _ ⟨by dsimp only; omega, by dsimp only; rw [show t + 1 - (j + 1) = m by omega], ?_⟩
        rw [show t + 1 - (j + 1) = m by omega, drop_at hz, ← h3, hN]
        simp only [prod]
        rw [show num (s.take m) (k.take m) * z + v + 1 = (num (s.take m) (k.take m) + 1) * z by rw [Int.add_mul]; omega, Int.mul_assoc]
    · rintro ⟨l, i⟩ nx ⟨h1, h2, h3⟩
      dsimp only at h1 h2 h3
      have hc : decide ((0 : Int) ≤ i) = false := by simp; omega
      simp only [GiAdvance.l0, unp2, letK, hc, iteK_if, Bool.false_eq_true, if_false, appK, GiAdvance.e0]
      refine ⟨_, rfl, fun h => by simp at h, fun _ => ?_⟩
      rw [← h3]
      simp [num]
  exact ⟨ok, k', h, hq⟩
end Go.Proofs.Ytdbgmcgjklmkkaa.Q6Adv

/- Chapter 6: kinds in their order, as numbers: the program's search and the reference's. (Q6First) No condition but those of each theorem. -/
namespace Go.Proofs.Ytdbgmcgjklmkkaa.Q6First
set_option linter.unusedVariables false
set_option linter.unusedSimpArgs false
open Go.RowKit
open Go.Proofs.Ytdbgmcgjklmkkaa.GoP Go.Proofs.Ytdbgmcgjklmkkaa.PlainStamp Go.Proofs.Ytdbgmcgjklmkkaa.QBase Go.Proofs.Ytdbgmcgjklmkkaa.Q6Adv Go.Proofs.Ytdbgmcgjklmkkaa.Q6Num Go.Proofs.Ytdbgmcgjklmkkaa.Q6Kind Go.Proofs.Ytdbgmcgjklmkkaa.Q6Tab Go.Proofs.Ytdbgmcgjklmkkaa.Q6Ban Go.Proofs.Ytdbgmcgjklmkkaa.QLoop Go.Proofs.Ytdbgmcgjklmkkaa.QAll Go.Proofs.Ytdbgmcgjklmkkaa.PBan

/-- r is the first compatible kind from number n on, or that there is none -/
def First (s : List Int) (l : List Ban) (n : Int) (r : List Int × Bool) : Prop :=
  (r.2 = true ∧ okK s r.1 = true ∧ free l r.1 = true ∧ n ≤ num s r.1 ∧ ∀ u, okK s u = true → free l u = true → n ≤ num s u → num s r.1 ≤ num s u) ∨
  (r = ([], false) ∧ ∀ u, okK s u = true → free l u = true → ¬ n ≤ num s u)
theorem first_uniq {s : List Int} {l : List Ban} {n : Int} {r r' : List Int × Bool} (hp : pos s) (h : First s l n r) (h' : First s l n r') : r = r' := by
  obtain ⟨k, b⟩ := r
  obtain ⟨k', b'⟩ := r'
  rcases h with ⟨h1, h2, h3, h4, h5⟩ | ⟨h1, h2⟩
  · dsimp only at h1 h2 h3 h4 h5
    rcases h' with ⟨g1, g2, g3, g4, g5⟩ | ⟨g1, g2⟩
    · dsimp only at g1 g2 g3 g4 g5
      have a1 := h5 k' g2 g3 g4
      have a2 := g5 k h2 h3 h4
      rw [num_inj hp h2 g2 (by omega), h1, g1]
    · exact absurd h4 (g2 k h2 h3)
  · rcases h' with ⟨g1, g2, g3, g4, g5⟩ | ⟨g1, g2⟩
    · dsimp only at g1 g2 g3 g4 g5
      exact absurd g4 (h2 k' g2 g3)
    · rw [h1, g1]
theorem firstFrom_eq {s : List Int} {l : List Ban} (ht : okT s l = true) {k : List Int} (hk : okK s k = true) (fuel : Nat) (hf : 3200 ≤ fuel) : ∃ r, GiFirstFrom.P fuel s l k = some r ∧ First s l (num s k) r := by
  obtain ⟨t1, t2, t3, t4, t5⟩ := okT_of ht
  have hp := pos_of t4
  have hsm := prod_small' t4 t2
  simp only [GiFirstFrom.P]
  refine lp_ex (n := 3125) (fun j kd => okK s kd = true ∧ num s k + (j : Int) ≤ num s kd ∧ ∀ u, okK s u = true → free l u = true → num s k ≤ num s u → num s kd ≤ num s u) ?_ ?_ fuel 0 k (by omega) (by omega) ⟨hk, by simp, fun u _ _ h => h⟩
  · rintro j kd nx hj ⟨h1, h2, h3⟩ hn
    simp only [GiFirstFrom.l0, letK]
    refine cnt_ex (n := l.length) (Q := fun r => First s l (num s k) r) (fun i _ => ∀ q b, q < i → l[q]? = some b → frb kd b = false) ?_ ?_ l.length 0 () (by omega) (fun q b hq _ => by omega)
    · rintro i ⟨⟩ nx1 hi hI hn1
      obtain ⟨b, hb, hbi⟩ := at_lt (l := l) (k := i) hi
      have hob := t5 b (List.mem_of_getElem? hb)
      obtain ⟨p, q, e1, e2, e3, e4⟩ := okB_nat t4 t2 hob
      simp only [GiFirstFrom.l1, hbi, Option.bind_some, unBan, forbids_eq t4 t2 hob (okK_len h1), letK, appK, iteK_if]
      cases hfb : frb kd b with
      | false =>
        rw [if_pos (by rfl)]
        refine hn1 () (fun q' b' hq hb' => ?_)
        by_cases he : q' = i
        · subst he; obtain rfl := Option.some.inj (hb.symm.trans hb'); exact hfb
        · exact hI q' b' (by omega) hb'
      | true =>
        rw [if_neg (by simp)]
        obtain ⟨ok, k', ha, g1, g2⟩ := advance_eq t4 t2 h1 (t := q) e4 fuel (by omega)
        rw [e2, ha]
        simp only [bind2_some]
        -- those with the same values are forbidden too
        have hno : ∀ u, okK s u = true → free l u = true → num s kd ≤ num s u → blockEnd s kd q ≤ num s u := by
          intro u hu hfu hle
          rcases Int.lt_or_le (num s u) (blockEnd s kd q) with h | h
          · exfalso
            have := frb_take t4 t2 hob e2 (block_same hp h1 hu hle h)
            have h4 := List.all_eq_true.1 hfu b (List.mem_of_getElem? hb)
            rw [this, hfb] at h4
            simp at h4
          · exact h
        cases ok with
        | true =>
          rw [if_neg (by simp)]
          obtain ⟨g3, g4⟩ := g1 rfl
          have hba := block_after hp h1 q
          exact hn k' ⟨g3, by omega, fun u hu hfu hle => by rw [g4]; exact hno u hu hfu (h3 u hu hfu hle)⟩
        | false =>
          rw [if_pos (by simp)]
          refine ⟨_, rfl, .inr ⟨rfl, fun u hu hfu hle => ?_⟩⟩
          have h4 := hno u hu hfu (h3 u hu hfu hle)
          have h5 := num_range hp hu
          rw [← g2 rfl] at h4
          omega
    · rintro ⟨⟩ hI
      refine ⟨_, rfl, .inl ⟨rfl, h1, ?_, by dsimp only; omega, h3⟩⟩
      refine List.all_eq_true.2 fun b hb => ?_
      obtain ⟨q, hq⟩ := List.getElem?_of_mem hb
      rw [hI q b (List.getElem?_eq_some_iff.1 hq).1 hq]; rfl
  · rintro kd nx ⟨h1, h2, h3⟩
    exfalso
    have := num_range hp h1
    have := num_range hp hk
    omega
theorem firstOf_eq {s : List Int} {l : List Ban} (ht : okT s l = true) (fuel : Nat) (hf : 3200 ≤ fuel) : ∃ r, GiFirstOf.P fuel s l = some r ∧ First s l 0 r := by
  obtain ⟨t1, t2, t3, t4, t5⟩ := okT_of ht
  simp only [GiFirstOf.P, letK]
  rw [guardK_pos (by omega)]
  obtain ⟨r, h1, h2⟩ := firstFrom_eq ht (okK_zeros (pos_of t4)) fuel hf
  rw [num_zeros] at h2
  refine ⟨r, ?_, h2⟩
  rw [cut2 h1]
  simp only [bind2_some]
theorem firstBehind_eq {s : List Int} {l : List Ban} (ht : okT s l = true) {k : List Int} (hk : okK s k = true) (fuel : Nat) (hf : 3200 ≤ fuel) : ∃ r, GiFirstBehind.P fuel s l k = some r ∧ First s l (num s k + 1) r := by
  obtain ⟨t1, t2, t3, t4, t5⟩ := okT_of ht
  have hlen := okK_len hk
  have hp := pos_of t4
  have hc : GxSlicesCloneIntInt.P k = some k := by
    simp only [GxSlicesCloneIntInt.P, GoK.nilK, iteK_if, letK]
    rw [if_neg (by simp), guardK_pos (by simp; omega)]
    simp
  simp only [GiFirstBehind.P, hc, Option.bind_some, letK, iteK_if]
  rw [wrap_in (by omega) (by omega), show ((k.length : Int) - 1) = ((s.length - 1 : Nat) : Int) by omega]
  obtain ⟨ok, k', ha, g1, g2⟩ := advance_eq t4 t2 hk (t := s.length - 1) (by omega) fuel (by omega)
  have hM : blockEnd s k (s.length - 1) = num s k + 1 := by
    unfold blockEnd
    rw [show s.length - 1 + 1 = s.length by omega, List.take_length, ← hlen, List.take_length, List.drop_of_length_le (by omega)]
    simp [prod]
  rw [ha]
  simp only [bind2_some]
  cases ok with
  | false =>
    rw [if_pos (by simp)]
    refine ⟨_, rfl, .inr ⟨rfl, fun u hu _ hle => ?_⟩⟩
    have := num_range hp hu
    have := g2 rfl
    omega
  | true =>
    rw [if_neg (by simp)]
    obtain ⟨g3, g4⟩ := g1 rfl
    obtain ⟨r, h1, h2⟩ := firstFrom_eq ht g3 fuel hf
    rw [g4, hM] at h2
    refine ⟨r, ?_, h2⟩
    rw [cut2 h1]
    simp only [bind2_some]
end Go.Proofs.Ytdbgmcgjklmkkaa.Q6First

/- Chapter 6: kinds in their order, as numbers: the program's search and the reference's. (Q6Spec) No condition but those of each theorem. -/
namespace Go.Proofs.Ytdbgmcgjklmkkaa.Q6Spec
set_option linter.unusedVariables false
set_option linter.unusedSimpArgs false
open Go.RowKit
open Go.Proofs.Ytdbgmcgjklmkkaa.GoP Go.Proofs.Ytdbgmcgjklmkkaa.PlainStamp Go.Proofs.Ytdbgmcgjklmkkaa.QBase Go.Proofs.Ytdbgmcgjklmkkaa.Q6First Go.Proofs.Ytdbgmcgjklmkkaa.Q6Num Go.Proofs.Ytdbgmcgjklmkkaa.Q6Kind Go.Proofs.Ytdbgmcgjklmkkaa.Q6Tab Go.Proofs.Ytdbgmcgjklmkkaa.Q6Ban Go.Proofs.Ytdbgmcgjklmkkaa.QLoop Go.Proofs.Ytdbgmcgjklmkkaa.QAll Go.Proofs.Ytdbgmcgjklmkkaa.PBan

theorem l6All_eq {s : List Int} (hs : okS s = true) (hl : s.length ≤ 5) (l : List Ban) (fuel : Nat) (hf : 7 ≤ fuel) : GsL6All.P fuel s l = some (prod s) := by
  simp only [GsL6All.P]
  obtain ⟨r, h, hr⟩ := lp_ex (f := GsL6All.l0 s) (fin := GsL6All.e0) (Q := fun r => r = prod s) (n := s.length) (fun j (st : Int × Int) => st.2 = (j : Int) ∧ st.1 = prod (s.take j)) (by
    rintro j ⟨a, i⟩ nx hj ⟨h1, h2⟩ hn
    dsimp only at h1 h2
    subst h1
    obtain ⟨z, hz, hzi⟩ := at_lt (l := s) (k := j) hj
    have hc : decide ((j : Int) < (s.length : Int)) = true := by simp; omega
    have e : prod (s.take (j + 1)) = prod (s.take j) * z := by rw [take_next hz, prod_append]; simp [prod]
    have b1 := prod_small hs hl (j + 1)
    have b2 := prod_pos (pos_take (pos_of hs) (j + 1))
    simp only [GsL6All.l0, unp2, letK, hc, iteK_if, if_true, hzi, Option.bind_some, appK]
    rw [h2, ← e, wrap_in (by omega) (by omega), next_i (by omega)]
    exact hn _ ⟨rfl, rfl⟩) (by
    rintro ⟨a, i⟩ nx ⟨h1, h2⟩
    dsimp only at h1 h2
    subst h1
    have hc : decide ((s.length : Int) < (s.length : Int)) = false := by simp
    simp only [GsL6All.l0, unp2, letK, hc, iteK_if, Bool.false_eq_true, if_false, appK, GsL6All.e0]
    exact ⟨_, rfl, by rw [h2, List.take_length]⟩) fuel 0 (1, 0) (by omega) (by omega) ⟨rfl, by simp [prod]⟩
  rw [h, hr]
theorem l6At_eq {s : List Int} (hs : okS s = true) (hl : s.length ≤ 5) (l : List Ban) {n : Int} (h0 : 0 ≤ n) (hn : n < prod s) (fuel : Nat) (hf : 7 ≤ fuel) : ∃ k, GsL6At.P fuel s l n = some k ∧ okK s k = true ∧ num s k = n := by
  have hp := pos_of hs
  have hsm := prod_small' hs hl
  simp only [GsL6At.P, letK]
  rw [guardK_pos (by omega), List.length_replicate, wrap_in (by omega) (by omega)]
  refine lp_ex (n := s.length) (fun j (st : Int × List Int × Int) => st.2.2 = (s.length : Int) - 1 - (j : Int) ∧ 0 ≤ st.1 ∧ ∃ t, st.2.1 = List.replicate (s.length - j) 0 ++ t ∧ okK (s.drop (s.length - j)) t = true ∧
    n = st.1 * prod (s.drop (s.length - j)) + num (s.drop (s.length - j)) t) ?_ ?_ fuel 0 _ (by omega) (by omega) ⟨by simp, h0, [], by simp, by simp [okK_nil], by simp [prod, num]⟩
  · rintro j ⟨a, o, i⟩ nx hj ⟨h1, h2, t, h3, h4, h5⟩ hn
    dsimp only at h1 h2 h3 h5
    obtain ⟨m, hm⟩ : ∃ m, m = s.length - 1 - j := ⟨_, rfl⟩
    have hi : i = (m : Int) := by omega
    subst hi
    rw [show s.length - j = m + 1 by omega] at h3 h4 h5
    obtain ⟨z, hz, hzi⟩ := at_lt (l := s) (k := m) (by omega)
    have hz5 := okS_at hs hz
    have hc : decide ((0 : Int) ≤ (m : Int)) = true := by simp
    have hP := prod_pos (pos_drop hp (m + 1))
    have hr := num_range (pos_drop hp (m + 1)) h4
    have ha : a ≤ n := by
      have := Int.mul_le_mul_of_nonneg_left (show 1 ≤ prod (s.drop (m + 1)) by omega) h2
      rw [Int.mul_one] at this
      omega
    have hlo : m < o.length := by rw [h3, List.length_append, List.length_replicate]; omega
    obtain ⟨x, hx, hxi⟩ := at_lt (l := o) (k := m) hlo
    have hd1 : 0 ≤ a / z := Int.ediv_nonneg h2 (by omega)
    have hd2 : a / z ≤ a := Int.ediv_le_self _ h2
    have hm1 : 0 ≤ a % z := Int.emod_nonneg _ (by omega)
    have hm2 : a % z < z := Int.emod_lt_of_pos _ (by omega)
    have hdm : z * (a / z) + a % z = a := Int.mul_ediv_add_emod a z
    simp only [GsL6At.l0, unp3, letK, hc, iteK_if, if_true, hzi, hxi, Option.bind_some, Int.toNat_natCast, appK]
    rw [guardK_pos (by omega), guardK_pos (by omega), Int.tmod_eq_emod_of_nonneg h2, Int.tdiv_eq_ediv_of_nonneg h2, wrap_in (x := a / z) (by omega) (by omega), wrap_in (by omega) (by omega)]
    have e : o.set m (a % z) = List.replicate m 0 ++ ((a % z) :: t) := by
      rw [h3, List.replicate_succ', List.append_assoc, List.set_append_right _ _ (by simp), List.length_replicate, Nat.sub_self]
      rfl
    rw [e]
    refine hn _ ⟨by dsimp only; omega, hd1, (a % z) :: t, ?_, ?_, ?_⟩
    · dsimp only; rw [show s.length - (j + 1) = m by omega]
    · rw [show s.length - (j + 1) = m by omega, drop_at hz]
      exact okK_cons.2 ⟨⟨hm1, hm2⟩, h4⟩
    · rw [show s.length - (j + 1) = m by omega, drop_at hz]
      dsimp only
      simp only [prod, num]
      rw [h5]
      have e2 : a * prod (s.drop (m + 1)) = (a / z) * (z * prod (s.drop (m + 1))) + (a % z) * prod (s.drop (m + 1)) := by
        rw [← Int.mul_assoc, ← Int.add_mul, Int.mul_comm (a / z) z, hdm]
      rw [e2]
      omega
  · rintro ⟨a, o, i⟩ nx ⟨h1, h2, t, h3, h4, h5⟩
    dsimp only at h1 h2 h3 h5
    have hc : decide ((0 : Int) ≤ i) = false := by simp; omega
    simp only [GsL6At.l0, unp3, letK, hc, iteK_if, Bool.false_eq_true, if_false, appK, GsL6At.e0]
    rw [Nat.sub_self, List.drop_zero] at h4 h5
    rw [Nat.sub_self, List.replicate_zero, List.nil_append] at h3
    subst h3
    refine ⟨_, rfl, h4, ?_⟩
    have hr := num_range hp h4
    rcases Int.lt_or_le 0 a with h | h
    · have := Int.mul_le_mul_of_nonneg_right (show 1 ≤ a by omega) (show 0 ≤ prod s by omega)
      omega
    · have : a = 0 := by omega
      rw [this] at h5
      omega
end Go.Proofs.Ytdbgmcgjklmkkaa.Q6Spec

/- Chapter 6: kinds that are counted: the program's list of them and the reference's sums. (Q6List) No condition but those of each theorem. -/
namespace Go.Proofs.Ytdbgmcgjklmkkaa.Q6List
set_option linter.unusedVariables false
set_option linter.unusedSimpArgs false
open Go.RowKit
open Go.Proofs.Ytdbgmcgjklmkkaa.GoP Go.Proofs.Ytdbgmcgjklmkkaa.PlainStamp Go.Proofs.Ytdbgmcgjklmkkaa.QBase Go.Proofs.Ytdbgmcgjklmkkaa.Q6Spec Go.Proofs.Ytdbgmcgjklmkkaa.Q6First Go.Proofs.Ytdbgmcgjklmkkaa.Q6Num Go.Proofs.Ytdbgmcgjklmkkaa.Q6Kind Go.Proofs.Ytdbgmcgjklmkkaa.Q6Tab Go.Proofs.Ytdbgmcgjklmkkaa.Q6Ban Go.Proofs.Ytdbgmcgjklmkkaa.QLoop Go.Proofs.Ytdbgmcgjklmkkaa.QAll Go.Proofs.Ytdbgmcgjklmkkaa.PBan

/-- the kind with number n -/
def kA (s : List Int) (n : Nat) : List Int := (GsL6At.P 8 s [] (n : Int)).getD []
theorem kA_spec {s : List Int} (hs : okS s = true) (hl : s.length ≤ 5) {n : Nat} (h : (n : Int) < prod s) : okK s (kA s n) = true ∧ num s (kA s n) = (n : Int) := by
  obtain ⟨k, h1, h2, h3⟩ := l6At_eq hs hl [] (n := (n : Int)) (by omega) h 8 (by omega)
  unfold kA
  rw [h1]
  exact ⟨h2, h3⟩
theorem l6At_is {s : List Int} (hs : okS s = true) (hl : s.length ≤ 5) (l : List Ban) {n : Nat} (h : (n : Int) < prod s) (fuel : Nat) (hf : 7 ≤ fuel) : GsL6At.P fuel s l (n : Int) = some (kA s n) := by
  obtain ⟨k, h1, h2, h3⟩ := l6At_eq hs hl l (n := (n : Int)) (by omega) h fuel hf
  have h4 := kA_spec hs hl h
  rw [h1, num_inj (pos_of hs) h2 h4.1 (by omega)]
theorem kA_num {s k : List Int} (hs : okS s = true) (hl : s.length ≤ 5) (hk : okK s k = true) : kA s (num s k).toNat = k := by
  have hr := num_range (pos_of hs) hk
  have e : (((num s k).toNat : Nat) : Int) = num s k := by omega
  have h4 := kA_spec hs hl (n := (num s k).toNat) (by omega)
  exact num_inj (pos_of hs) h4.1 hk (by omega)
def upto (s : List Int) (l : List Ban) (m : Nat) : List (List Int) := ((List.range m).filter fun n => free l (kA s n)).map (kA s)
theorem upto_succ (s : List Int) (l : List Ban) (m : Nat) : upto s l (m + 1) = if free l (kA s m) = true then upto s l m ++ [kA s m] else upto s l m := by
  unfold upto
  rw [List.range_succ, List.filter_append, List.map_append]
  cases h : free l (kA s m) <;> simp [List.filter, h]
theorem upto_len (s : List Int) (l : List Ban) (m : Nat) : (upto s l m).length ≤ m := by
  unfold upto
  rw [List.length_map]
  have := List.length_filter_le (fun n => free l (kA s n)) (List.range m)
  rw [List.length_range] at this
  exact this
theorem upto_skip (s : List Int) (l : List Ban) (m d : Nat) (h : ∀ n, m ≤ n → n < m + d → free l (kA s n) = false) : upto s l (m + d) = upto s l m := by
  induction d with
  | zero => rfl
  | succ d ih =>
    rw [show m + (d + 1) = (m + d) + 1 by omega, upto_succ, h (m + d) (by omega) (by omega), ih (fun n h1 h2 => h n h1 (by omega))]
    rfl
theorem first_upto {s : List Int} {l : List Ban} (hs : okS s = true) (hl : s.length ≤ 5) {m : Nat} (hm : (m : Int) ≤ prod s) {r : List Int × Bool} (h : First s l (m : Int) r) :
    (r.2 = true → okK s r.1 = true ∧ free l r.1 = true ∧ (m : Int) ≤ num s r.1 ∧ upto s l (num s r.1).toNat = upto s l m) ∧ (r.2 = false → upto s l (prod s).toNat = upto s l m) := by
  rcases h with ⟨h1, h2, h3, h4, h5⟩ | ⟨h1, h2⟩
  · refine ⟨fun _ => ⟨h2, h3, h4, ?_⟩, fun h => by rw [h1] at h; simp at h⟩
    have hr := num_range (pos_of hs) h2
    obtain ⟨d, hd⟩ : ∃ d, (num s r.1).toNat = m + d := ⟨(num s r.1).toNat - m, by omega⟩
    rw [hd]
    refine upto_skip s l m d (fun n g1 g2 => ?_)
    have g3 := kA_spec hs hl (n := n) (by omega)
    cases hf : free l (kA s n) with
    | false => rfl
    | true => have := h5 _ g3.1 hf (by omega); omega
  · refine ⟨fun h => by rw [h1] at h; simp at h, fun _ => ?_⟩
    obtain ⟨d, hd⟩ : ∃ d, (prod s).toNat = m + d := ⟨(prod s).toNat - m, by omega⟩
    rw [hd]
    refine upto_skip s l m d (fun n g1 g2 => ?_)
    have g3 := kA_spec hs hl (n := n) (by omega)
    cases hf : free l (kA s n) with
    | false => rfl
    | true => exact absurd (by omega) (h2 _ g3.1 hf)
def all (s : List Int) (l : List Ban) : List (List Int) := upto s l (prod s).toNat
theorem kinds_eq {s : List Int} {l : List Ban} (ht : okT s l = true) (fuel : Nat) (hf : 3200 ≤ fuel) : GiCompatibleKinds.P fuel s l = some (all s l) := by
  obtain ⟨t1, t2, t3, t4, t5⟩ := okT_of ht
  have hP := prod_pos (pos_of t4)
  have hsm := prod_small' t4 t2
  obtain ⟨⟨k0, b0⟩, h1, h2⟩ := firstOf_eq ht fuel hf
  have h3 := first_upto t4 t2 (m := 0) (by omega) h2
  simp only [GiCompatibleKinds.P, h1, bind2_some]
  obtain ⟨r, hr, rfl⟩ := lp_ex (f := GiCompatibleKinds.l0 s l fuel) (fin := GiCompatibleKinds.e0) (Q := fun r => r = all s l) (n := 3126)
    (fun j (st : List (List Int) × List Int × Bool) => (st.2.2 = true ∧ okK s st.2.1 = true ∧ free l st.2.1 = true ∧ (j : Int) ≤ num s st.2.1 ∧ st.1 = upto s l (num s st.2.1).toNat) ∨ (st.2.2 = false ∧ st.1 = all s l)) (by
    rintro j ⟨ks, k, ok⟩ nx hj hI hn
    dsimp only at hI
    simp only [GiCompatibleKinds.l0, unp3, letK, appK, iteK_if]
    rcases hI with ⟨g1, g2, g3, g4, g5⟩ | ⟨g1, g2⟩
    · have hr := num_range (pos_of t4) g2
      have hlen := upto_len s l (num s k).toNat
      rw [if_pos g1, guardK_pos (by rw [g5]; omega)]
      obtain ⟨⟨k', b'⟩, e1, e2⟩ := firstBehind_eq ht g2 fuel hf
      simp only [e1, bind2_some]
      have e3 := first_upto (r := (k', b')) (m := (num s k).toNat + 1) t4 t2 (by omega) (by rw [show (((num s k).toNat + 1 : Nat) : Int) = num s k + 1 by omega]; exact e2)
      have e4 : ks ++ [k] = upto s l ((num s k).toNat + 1) := by rw [upto_succ, kA_num t4 t2 g2, if_pos g3, g5]
      refine hn _ ?_
      dsimp only at e3 ⊢
      cases b' with
      | true =>
        obtain ⟨f1, f2, f3, f4⟩ := e3.1 rfl
        exact .inl ⟨rfl, f1, f2, by omega, by rw [e4, f4]⟩
      | false => exact .inr ⟨rfl, by rw [e4]; unfold all; rw [e3.2 rfl]⟩
    · rw [if_neg (by rw [g1]; simp)]
      exact ⟨_, rfl, g2⟩) (by
    rintro ⟨ks, k, ok⟩ nx hI
    dsimp only at hI
    rcases hI with ⟨g1, g2, g3, g4, g5⟩ | ⟨g1, g2⟩
    · have hr := num_range (pos_of t4) g2
      omega
    · simp only [GiCompatibleKinds.l0, unp3, letK, appK, iteK_if]
      rw [if_neg (by rw [g1]; simp)]
      exact ⟨_, rfl, g2⟩) fuel 0 ([], k0, b0) (by omega) (by omega) (by
    dsimp only at h3 ⊢
    cases b0 with
    | true =>
      obtain ⟨f1, f2, f3, f4⟩ := h3.1 rfl
      have hr := num_range (pos_of t4) f1
      exact .inl ⟨rfl, f1, f2, by simpa using hr.1, by rw [f4]; rfl⟩
    | false => exact .inr ⟨rfl, by unfold all; rw [h3.2 rfl]; rfl⟩)
  exact hr
end Go.Proofs.Ytdbgmcgjklmkkaa.Q6List

/- Chapter 6: kinds that are counted: the program's list of them and the reference's sums. (Q6With) No condition but those of each theorem. -/
namespace Go.Proofs.Ytdbgmcgjklmkkaa.Q6With
set_option linter.unusedVariables false
set_option linter.unusedSimpArgs false
open Go.RowKit
open Go.Proofs.Ytdbgmcgjklmkkaa.GoP Go.Proofs.Ytdbgmcgjklmkkaa.PlainStamp Go.Proofs.Ytdbgmcgjklmkkaa.QBase Go.Proofs.Ytdbgmcgjklmkkaa.Q6List Go.Proofs.Ytdbgmcgjklmkkaa.Q6Spec Go.Proofs.Ytdbgmcgjklmkkaa.Q6First Go.Proofs.Ytdbgmcgjklmkkaa.Q6Num Go.Proofs.Ytdbgmcgjklmkkaa.Q6Kind Go.Proofs.Ytdbgmcgjklmkkaa.Q6Tab Go.Proofs.Ytdbgmcgjklmkkaa.Q6Ban Go.Proofs.Ytdbgmcgjklmkkaa.QLoop Go.Proofs.Ytdbgmcgjklmkkaa.QAll Go.Proofs.Ytdbgmcgjklmkkaa.PBan

def qv (a v : Int) (k : List Int) : Bool := decide (a < 0) || (k[a.toNat]?.getD 0 == v)
def cntTo (s : List Int) (l : List Ban) (a v : Int) (m : Nat) : Nat := ((List.range m).filter fun n => qv a v (kA s n) && free l (kA s n)).length
theorem cntTo_succ (s : List Int) (l : List Ban) (a v : Int) (m : Nat) : cntTo s l a v (m + 1) = if (qv a v (kA s m) && free l (kA s m)) = true then cntTo s l a v m + 1 else cntTo s l a v m := by
  unfold cntTo
  rw [List.range_succ, List.filter_append, List.length_append]
  cases h : (qv a v (kA s m) && free l (kA s m)) <;> simp [List.filter, h]
theorem cntTo_le (s : List Int) (l : List Ban) (a v : Int) (m : Nat) : cntTo s l a v m ≤ m := by
  unfold cntTo
  have := List.length_filter_le (fun n => qv a v (kA s n) && free l (kA s n)) (List.range m)
  rw [List.length_range] at this
  exact this
theorem with_eq {s : List Int} {l : List Ban} (ht : okT s l = true) (a v : Int) (ha : a < 0 ∨ ∃ i : Nat, a = (i : Int) ∧ i < s.length) (fuel : Nat) (hf : 3200 ≤ fuel) : GsL6With.P fuel s l a v = some ((cntTo s l a v (prod s).toNat : Nat) : Int) := by
  obtain ⟨t1, t2, t3, t4, t5⟩ := okT_of ht
  have hP := prod_pos (pos_of t4)
  have hsm := prod_small' t4 t2
  simp only [GsL6With.P]
  obtain ⟨r, hr, rfl⟩ := lp_ex (f := GsL6With.l0 s l a v fuel) (fin := GsL6With.e0) (Q := fun r => r = ((cntTo s l a v (prod s).toNat : Nat) : Int)) (n := (prod s).toNat)
    (fun j (st : Int × Int) => st.2 = (j : Int) ∧ st.1 = ((cntTo s l a v j : Nat) : Int)) (by
    rintro j ⟨x, y⟩ nx hj ⟨h1, h2⟩ hn
    dsimp only at h1 h2
    subst h1; subst h2
    have hlt : (j : Int) < prod s := by omega
    have hok := kA_spec t4 t2 hlt
    have hle := cntTo_le s l a v j
    have hs' := cntTo_succ s l a v j
    have hc : decide ((j : Int) < prod s) = true := by simpa using hlt
    simp only [GsL6With.l0, unp2, letK, l6All_eq t4 t2 l fuel (by omega), Option.bind_some, hc, iteK_if, if_true, l6At_is t4 t2 l hlt fuel (by omega), l6Free_eq ht (okK_len hok.1) fuel (by omega), joinK, appK]
    have fin : ∀ b, (qv a v (kA s j) && free l (kA s j)) = b → ∃ r, (if b = true then nx (IntKind.i64.wrap (((cntTo s l a v j : Nat) : Int) + 1), IntKind.i64.wrap ((j : Int) + 1)) else nx (((cntTo s l a v j : Nat) : Int), IntKind.i64.wrap ((j : Int) + 1))) = some r ∧ r = ((cntTo s l a v (prod s).toNat : Nat) : Int) := by
      intro b hb
      rw [hb] at hs'
      cases b with
      | true =>
        rw [if_pos rfl] at hs' ⊢
        rw [wrap_in (x := ((cntTo s l a v j : Nat) : Int) + 1) (by omega) (by omega), next_i (by omega)]
        exact hn _ ⟨rfl, by dsimp only; rw [hs']; omega⟩
      | false =>
        rw [if_neg (by simp)] at hs' ⊢
        rw [next_i (by omega)]
        exact hn _ ⟨rfl, by dsimp only; rw [hs']⟩
    rcases ha with ha | ⟨i, rfl, hi⟩
    · have hq : qv a v (kA s j) = true := by unfold qv; simp [ha]
      have := fin (free l (kA s j)) (by rw [hq]; simp)
      simpa [ha] using this
    · obtain ⟨x, hx, hxi⟩ := at_lt (l := kA s j) (k := i) (by rw [okK_len hok.1]; exact hi)
      have hq : qv (i : Int) v (kA s j) = (x == v) := by unfold qv; rw [Int.toNat_natCast, hx]; simp; omega
      have := fin ((x == v) && free l (kA s j)) (by rw [hq])
      have hn0 : ¬ ((i : Int) < 0) := by omega
      simp only [hn0, decide_false, Bool.false_eq_true, if_false, hxi, Option.bind_some]
      cases hxv : (x == v) with
      | true => rw [hxv] at this; simpa using this
      | false => rw [hxv] at this; simpa using this) (by
    rintro ⟨x, y⟩ nx ⟨h1, h2⟩
    dsimp only at h1 h2
    subst h1; subst h2
    have hc : decide ((((prod s).toNat : Nat) : Int) < prod s) = false := by simp; omega
    simp only [GsL6With.l0, unp2, letK, l6All_eq t4 t2 l fuel (by omega), Option.bind_some, hc, iteK_if, Bool.false_eq_true, if_false, appK, GsL6With.e0]
    exact ⟨_, rfl, rfl⟩) fuel 0 (0, 0) (by omega) (by omega) ⟨rfl, by simp [cntTo]⟩
  exact hr
theorem all_count (s : List Int) (l : List Ban) : cntTo s l (-1) 0 (prod s).toNat = (all s l).length := by
  unfold cntTo all upto
  rw [List.length_map]
  simp [qv]
end Go.Proofs.Ytdbgmcgjklmkkaa.Q6With

/- Rising rows: what a rising row gives; loops that sum; loops from one on. No condition. -/
namespace Go.Proofs.Ytdbgmcgjklmkkaa.QUp
set_option linter.unusedVariables false
set_option linter.unusedSimpArgs false
open Go.RowKit
open Go.Proofs.Ytdbgmcgjklmkkaa.GoP Go.Proofs.Ytdbgmcgjklmkkaa.QBase Go.Proofs.Ytdbgmcgjklmkkaa.QLoop Go.Proofs.Ytdbgmcgjklmkkaa.QAll

theorem upTo_at {α : Type} {ok : α → Bool} {id : α → Int} {l : List α} {n : Nat} (h : upTo ok id l n = true) {k : Nat} (hk : k < n) : upAt ok id l k = true := List.all_eq_true.1 h k (List.mem_range.2 hk)
theorem upTo_ok {α : Type} {ok : α → Bool} {id : α → Int} {l : List α} {n : Nat} (h : upTo ok id l n = true) {k : Nat} (hk : k < n) {x : α} (hx : l[k]? = some x) : ok x = true := by
  have := upTo_at h hk
  unfold upAt at this
  rw [hx] at this
  simp only [Bool.and_eq_true] at this
  exact this.1
theorem upTo_step {α : Type} {ok : α → Bool} {id : α → Int} {l : List α} {n : Nat} (h : upTo ok id l n = true) {k : Nat} (hk : k + 1 < n) {x y : α} (hx : l[k]? = some x) (hy : l[k + 1]? = some y) : id x < id y := by
  have := upTo_at h hk
  unfold upAt at this
  rw [hy] at this
  simp only [Nat.add_sub_cancel, hx, Bool.and_eq_true, Bool.or_eq_true, decide_eq_true_eq] at this
  rcases this.2 with h0 | h0
  · omega
  · exact h0
theorem upTo_lt {α : Type} {ok : α → Bool} {id : α → Int} {l : List α} {n : Nat} (h : upTo ok id l n = true) (hn : n ≤ l.length) {i : Nat} : ∀ d {x y : α}, i + d + 1 < n → l[i]? = some x → l[i + d + 1]? = some y → id x < id y := by
  intro d
  induction d with
  | zero => intro x y hk hx hy; exact upTo_step h hk hx hy
  | succ d ih =>
    intro x y hk hx hy
    obtain ⟨z, hz, _⟩ := at_lt (l := l) (k := i + d + 1) (by omega)
    have h1 := ih (by omega) hx hz
    have h2 := upTo_step (k := i + d + 1) h (by omega) hz (by rw [← hy]; rfl)
    omega
/-- rising numbers: the later one is greater -/
theorem up_less {α : Type} {ok : α → Bool} {id : α → Int} {l : List α} (h : upTo ok id l l.length = true) {i j : Nat} {x y : α} (hij : i < j) (hx : l[i]? = some x) (hy : l[j]? = some y) : id x < id y := by
  have hj := (List.getElem?_eq_some_iff.1 hy).1
  exact upTo_lt h (Nat.le_refl _) (j - i - 1) (by omega) hx (by rw [← hy]; congr 1; omega)
/-- a loop with fuel, from k on, by an invariant -/
theorem lp_is {σ ρ : Type} {f : σ → (σ → Option ρ) → (σ → Option ρ) → Option ρ} {fin : σ → Option ρ} {n : Nat} (r : ρ) (I : Nat → σ → Prop)
    (step : ∀ k s nx, k < n → I k s → (∀ s', I (k + 1) s' → nx s' = some r) → f s nx fin = some r) (done : ∀ s nx, I n s → f s nx fin = some r) (fuel : Nat) (k : Nat) (s : σ) (hk : k ≤ n) (hf : n - k < fuel) (hI : I k s) : loopK f fuel s fin = some r := by
  obtain ⟨r', h, rfl⟩ := lp_ex (Q := fun x => x = r) I (fun k s nx hk hI hn => ⟨r, step k s nx hk hI (fun s' h' => by obtain ⟨_, h, rfl⟩ := hn s' h'; exact h), rfl⟩) (fun s nx h => ⟨r, done s nx h, rfl⟩) fuel k s hk hf hI
  exact h
theorem most_eq (a b : Int) (h : (if b < a then a else b) = max a b := by omega) : (if b < a then a else b) = max a b := h
end Go.Proofs.Ytdbgmcgjklmkkaa.QUp

/- Needless bans: the plain functions of the program and of the reference agree, and the law answers true. (Q6Need) No condition but those of each theorem. -/
namespace Go.Proofs.Ytdbgmcgjklmkkaa.Q6Need
set_option linter.unusedVariables false
set_option linter.unusedSimpArgs false
open Go.RowKit
open Go.Proofs.Ytdbgmcgjklmkkaa.GoP Go.Proofs.Ytdbgmcgjklmkkaa.PlainStamp Go.Proofs.Ytdbgmcgjklmkkaa.QBase Go.Proofs.Ytdbgmcgjklmkkaa.Q6With Go.Proofs.Ytdbgmcgjklmkkaa.Q6List Go.Proofs.Ytdbgmcgjklmkkaa.Q6Num Go.Proofs.Ytdbgmcgjklmkkaa.Q6Kind Go.Proofs.Ytdbgmcgjklmkkaa.Q6Tab Go.Proofs.Ytdbgmcgjklmkkaa.Q6Ban Go.Proofs.Ytdbgmcgjklmkkaa.QUp Go.Proofs.Ytdbgmcgjklmkkaa.QLoop Go.Proofs.Ytdbgmcgjklmkkaa.QAll Go.Proofs.Ytdbgmcgjklmkkaa.PBan

def cut (l : List Ban) (i : Nat) : List Ban := l.take i ++ l.drop (i + 1)
theorem cut_at (l : List Ban) (i k : Nat) : (cut l i)[k]? = if k < i then l[k]? else l[k + 1]? := by
  unfold cut
  rw [← List.eraseIdx_eq_take_drop_succ, List.getElem?_eraseIdx]
theorem cut_len {l : List Ban} {i : Nat} (hi : i < l.length) : (cut l i).length = l.length - 1 := by
  unfold cut
  rw [List.length_append, List.length_take, List.length_drop]; omega
theorem okT_cut {s : List Int} {l : List Ban} (ht : okT s l = true) {i : Nat} (hi : i < l.length) : okT s (cut l i) = true := by
  obtain ⟨t1, t2, t3, t4, t5⟩ := okT_of ht
  have hu : upTo (okB s) code l l.length = true := by
    unfold okT at ht
    simp only [Bool.and_eq_true] at ht
    exact ht.2
  have hin : ∀ (k : Nat) (x : Ban), (cut l i)[k]? = some x → ∃ j, l[j]? = some x ∧ k ≤ j ∧ j ≤ k + 1 := by
    intro k x hx
    rw [cut_at] at hx
    split at hx
    · exact ⟨k, hx, by omega, by omega⟩
    · exact ⟨k + 1, hx, by omega, by omega⟩
  have hinc : ∀ (k : Nat) (r x : Ban), 0 < k → (cut l i)[k - 1]? = some r → (cut l i)[k]? = some x → code r < code x := by
    intro k r x hk hr hx
    rw [cut_at] at hr hx
    by_cases h1 : k < i
    · rw [if_pos h1] at hx
      rw [if_pos (by omega)] at hr
      exact up_less hu (by omega) hr hx
    · rw [if_neg h1] at hx
      by_cases h2 : k - 1 < i
      · rw [if_pos h2] at hr
        exact up_less hu (by omega) hr hx
      · rw [if_neg h2] at hr
        exact up_less hu (by omega) hr hx
  have hall : allN (cut l i).length (upB s (cut l i)) = true := by
    rw [allN_iff]
    intro k hk
    obtain ⟨x, hx, _⟩ := at_lt (l := cut l i) (k := k) hk
    obtain ⟨j, hj, _, _⟩ := hin k x hx
    have hok := t5 x (List.mem_of_getElem? hj)
    unfold upB
    by_cases h0 : k = 0
    · subst h0; exact upAt_first hx hok
    · obtain ⟨r, hr, _⟩ := at_lt (l := cut l i) (k := k - 1) (by omega)
      rw [upAt_next hx hr (by omega) hok]
      simpa using hinc k r x (by omega) hr hx
  have hlen := cut_len hi
  unfold okT
  rw [inB_yes (by omega) (by omega), t4, hall, decide_eq_true (by omega)]
  rfl
def nd (s : List Int) (l : List Ban) (i : Nat) : Bool := decide ((all s (cut l i)).length = (all s l).length)
def ndTo (s : List Int) (l : List Ban) (k : Nat) : List Int := ((List.range k).filter (nd s l)).map fun i : Nat => (i : Int)
theorem ndTo_succ (s : List Int) (l : List Ban) (k : Nat) : ndTo s l (k + 1) = if nd s l k = true then ndTo s l k ++ [(k : Int)] else ndTo s l k := by
  unfold ndTo
  rw [List.range_succ, List.filter_append, List.map_append]
  cases h : nd s l k <;> simp [List.filter, h]
theorem ndTo_len (s : List Int) (l : List Ban) (k : Nat) : (ndTo s l k).length ≤ k := by
  unfold ndTo
  rw [List.length_map]
  have := List.length_filter_le (nd s l) (List.range k)
  rw [List.length_range] at this
  exact this
def ndRes (s : List Int) (l : List Ban) : List Int × Bool := if okT s l = true then (ndTo s l l.length, true) else ([], false)
theorem need_impl (fuel : Nat) (hf : 3200 ≤ fuel) (s : List Int) (l : List Ban) (hs : s.length ≤ 9223372036854775807) (hl : l.length ≤ 9223372036854775807) : GiNeedlessBans.P fuel s l = some (ndRes s l) := by
  simp only [GiNeedlessBans.P, isTable_eq s l hs hl, Option.bind_some, letK, iteK_if, ndRes]
  cases ht : okT s l with
  | false => simp
  | true =>
    obtain ⟨t1, t2, t3, t4, t5⟩ := okT_of ht
    simp only [Bool.not_true, Bool.false_eq_true, if_false, if_true, kinds_eq ht fuel hf, Option.bind_some]
    refine cnt_is _ (fun k st => st = ndTo s l k) ?_ ?_ [] rfl
    · intro k st nx hk hI hn
      have hcl : GxSlicesCloneLoopExampleG01062ImplBanLoopExampleG01062ImplBan.P l = some l := by
        simp only [GxSlicesCloneLoopExampleG01062ImplBanLoopExampleG01062ImplBan.P, Go.Proofs.Ytdbgmcgjklmkkaa.GoK.nilK, iteK_if, letK]
        rw [if_neg (by simp), guardK_pos (by simp; omega)]; simp
      have hdel : GxSlicesDeleteLoopExampleG01062ImplBanLoopExampleG01062ImplBan.P l (k : Int) ((k : Int) + 1) = some (cut l k) := by
        simp only [GxSlicesDeleteLoopExampleG01062ImplBanLoopExampleG01062ImplBan.P]
        rw [guardK_pos (by omega), show Int.toNat ((k : Int) + 1) = k + 1 by omega]; rfl
      have hle := ndTo_len s l k
      simp only [GiNeedlessBans.l0, letK, hcl, Option.bind_some]
      rw [wrap_in (by omega) (by omega)]
      simp only [hdel, Option.bind_some, kinds_eq (okT_cut ht hk) fuel hf, iteK_if, appK]
      rw [guardK_pos (by rw [hI]; omega)]
      have hs' := ndTo_succ s l k
      by_cases hq : (all s (cut l k)).length = (all s l).length
      · have hnd : nd s l k = true := by unfold nd; simpa using hq
        rw [if_pos (by simp; omega)]
        exact hn _ (by rw [hs', hnd, if_pos rfl, hI])
      · have hnd : nd s l k = false := by unfold nd; simpa using hq
        rw [if_neg (by simp; omega)]
        exact hn _ (by rw [hs', hnd, if_neg (by simp), hI])
    · intro st hI
      simp only [GiNeedlessBans.e0, letK, hI]
theorem need_spec (fuel : Nat) (hf : 3200 ≤ fuel) (s : List Int) (l : List Ban) (hs : s.length ≤ 9223372036854775807) (hl : l.length ≤ 9223372036854775807) : GsNeedlessBans.P fuel s l = some (ndRes s l) := by
  simp only [GsNeedlessBans.P, l6Good_eq fuel (by omega) s l hs hl, Option.bind_some, letK, iteK_if, ndRes]
  cases ht : okT s l with
  | false => simp
  | true =>
    obtain ⟨t1, t2, t3, t4, t5⟩ := okT_of ht
    simp only [Bool.not_true, Bool.false_eq_true, if_false, if_true, with_eq ht (-1) 0 (.inl (by omega)) fuel hf, all_count, Option.bind_some]
    refine lp_is (n := l.length) _ (fun k (st : List Int × Int) => st = (ndTo s l k, (k : Int))) ?_ ?_ fuel 0 _ (by omega) (by omega) rfl
    · rintro k st nx hk rfl hn
      have hle := ndTo_len s l k
      simp only [GsNeedlessBans.l0, unp2, letK, iteK_if, appK]
      rw [if_pos (by simp; omega), guardK_pos (by omega), wrap_in (by omega) (by omega), show Int.toNat ((k : Int) + 1) = k + 1 by omega, Int.toNat_natCast]
      rw [guardK_pos (by rw [List.length_take]; simp; omega), guardK_pos (by omega), guardK_pos (by rw [List.length_append, List.length_take, List.length_drop]; simp; omega)]
      have hcut : (([] : List Ban) ++ l.take k) ++ l.drop (k + 1) = cut l k := by rw [List.nil_append]; rfl
      simp only [hcut, with_eq (okT_cut ht hk) (-1) 0 (.inl (by omega)) fuel hf, all_count, Option.bind_some]
      rw [guardK_pos (by omega), show (k : Int) + 1 = ((k + 1 : Nat) : Int) by omega]
      have hs' := ndTo_succ s l k
      by_cases hq : (all s (cut l k)).length = (all s l).length
      · have hnd : nd s l k = true := by unfold nd; simpa using hq
        rw [if_pos (by simp; omega)]
        exact hn _ (by rw [hs', hnd, if_pos rfl])
      · have hnd : nd s l k = false := by unfold nd; simpa using hq
        rw [if_neg (by simp; omega)]
        exact hn _ (by rw [hs', hnd, if_neg (by simp)])
    · rintro st nx rfl
      simp only [GsNeedlessBans.l0, unp2, letK, iteK_if, appK, GsNeedlessBans.e0]
      rw [if_neg (by simp)]
end Go.Proofs.Ytdbgmcgjklmkkaa.Q6Need

/- Chapter 5: combs, holes, gauges: the plain functions of the program and of the reference agree, and the laws answer true. (QToI) No condition but those of each theorem. -/
namespace Go.Proofs.Ytdbgmcgjklmkkaa.QToI
set_option linter.unusedVariables false
set_option linter.unusedSimpArgs false
open Go.RowKit
open Go.Proofs.Ytdbgmcgjklmkkaa.GoP Go.Proofs.Ytdbgmcgjklmkkaa.PlainStamp Go.Proofs.Ytdbgmcgjklmkkaa.QBase Go.Proofs.Ytdbgmcgjklmkkaa.QLoop

theorem toI (l : List Int) (hl : l.length ≤ 1048576) : GlToIntS.P l = some l := by
  simp only [GlToIntS.P, letK]
  rw [guardK_pos (by omega)]
  refine cnt_is l (fun k s => s = l.take k ++ List.replicate (l.length - k) 0) ?_ ?_ _ (by simp)
  · intro k s nx hk hI hn
    obtain ⟨x, hx, hi⟩ := at_lt (l := l) (k := k) hk
    have hlen : s.length = l.length := by rw [hI]; simp; omega
    obtain ⟨z, hz, hj⟩ := at_lt (l := s) (k := k) (by omega)
    simp only [GlToIntS.l0, hi, hj, Option.bind_some, letK, appK]
    refine hn _ ?_
    rw [hI, take_next hx, List.set_append_right _ _ (by simp; omega)]
    have hr : l.length - k = (l.length - (k + 1)) + 1 := by omega
    rw [hr, List.replicate_succ, List.append_assoc]
    simp [show k - min k l.length = 0 by omega]
  · intro s hI
    rw [hI]; simp [GlToIntS.e0, letK]
end Go.Proofs.Ytdbgmcgjklmkkaa.QToI

/- The laws' helpers on Ban and on slices of it as plain functions: copied, equal, their bulk. No condition. -/
namespace Go.Proofs.Ytdbgmcgjklmkkaa.QHBanE
set_option linter.unusedVariables false
set_option linter.unusedSimpArgs false
open Go.RowKit
open Go.Proofs.Ytdbgmcgjklmkkaa.GoP Go.Proofs.Ytdbgmcgjklmkkaa.QBase Go.Proofs.Ytdbgmcgjklmkkaa.QLoop Go.Proofs.Ytdbgmcgjklmkkaa.PBan

theorem toOne (s : Ban) : GlToBan.P s = some s := by cases s; rfl
theorem eqOne (s : Ban) : GlEqBan.P s s = some true := by
  obtain ⟨x0, x1, x2, x3⟩ := s
  simp [GlEqBan.P, unBan, letK, joinK, appK, iteK_if]
theorem toS (l : List Ban) (hl : l.length ≤ 1048576) : GlToBanS.P l = some l := by
  simp only [GlToBanS.P, letK]
  rw [guardK_pos (by omega)]
  refine cnt_is l (fun k s => s = l.take k ++ List.replicate (l.length - k) (Ban.mk 0 0 0 0)) ?_ ?_ _ (by simp)
  · intro k s nx hk hI hn
    obtain ⟨x, hx, hi⟩ := at_lt (l := l) (k := k) hk
    have hlen : s.length = l.length := by rw [hI]; simp; omega
    obtain ⟨z, hz, hj⟩ := at_lt (l := s) (k := k) (by omega)
    simp only [GlToBanS.l0, hi, hj, toOne, Option.bind_some, unBan, letK, appK]
    refine hn _ ?_
    rw [hI, take_next hx, List.set_append_right _ _ (by simp; omega)]
    have hr : l.length - k = (l.length - (k + 1)) + 1 := by omega
    rw [hr, List.replicate_succ, List.append_assoc]
    simp [show k - min k l.length = 0 by omega]
  · intro s hI
    rw [hI]; simp [GlToBanS.e0, letK]
theorem eqS (l : List Ban) : GlEqBanS.P l l = some true := by
  simp only [GlEqBanS.P, letK, iteK_if]
  rw [if_neg (by simp)]
  refine cnt_is true (fun _ _ => True) ?_ (fun s _ => rfl) () trivial
  intro k s nx hk _ hn
  obtain ⟨x, hx, hi⟩ := at_lt (l := l) (k := k) hk
  simp only [GlEqBanS.l0, hi, Option.bind_some, unBan, eqOne, letK, appK, iteK_if]
  exact hn () trivial
theorem szS (l : List Ban) (hl : l.length ≤ 9223372036854775807) : GlSzBanS.P l 1048576 = some (if l.length ≤ 1048576 then 1048576 - (l.length : Int) else -1) := by
  simp only [GlSzBanS.P, letK, iteK_if]
  rw [wrap_in (by omega) (by omega)]
  by_cases h : l.length ≤ 1048576
  · rw [if_neg (by simp; omega), if_pos h]
  · rw [if_pos (by simp; omega), if_neg h]
end Go.Proofs.Ytdbgmcgjklmkkaa.QHBanE

/- Chapter 6: tables of kinds: the plain functions of the program and of the reference agree, and the laws answer true. (Q6Help) No condition but those of each theorem. -/
namespace Go.Proofs.Ytdbgmcgjklmkkaa.Q6Help
set_option linter.unusedVariables false
set_option linter.unusedSimpArgs false
open Go.RowKit
open Go.Proofs.Ytdbgmcgjklmkkaa.GoP Go.Proofs.Ytdbgmcgjklmkkaa.PlainStamp Go.Proofs.Ytdbgmcgjklmkkaa.QBase Go.Proofs.Ytdbgmcgjklmkkaa.QLoop Go.Proofs.Ytdbgmcgjklmkkaa.QAll Go.Proofs.Ytdbgmcgjklmkkaa.PBan Go.Proofs.Ytdbgmcgjklmkkaa.QToI Go.Proofs.Ytdbgmcgjklmkkaa.QHBanE

theorem szT (s : List Int) (l : List Ban) (hs : s.length ≤ 9223372036854775807) (hl : l.length ≤ 9223372036854775807) : ∃ c, GlSzKindTable.P s l 1048576 = some c ∧ (0 ≤ c → s.length ≤ 1048576 ∧ l.length ≤ 1048576) := by
  simp only [GlSzKindTable.P, GlSzIntS.P, GlSzBanS.P, letK, iteK_if]
  rw [wrap_in (x := 1048576 - (s.length : Int)) (by omega) (by omega)]
  by_cases h : (1048576 - (s.length : Int)) < 0
  · exact ⟨-1, by simp [h], by omega⟩
  · rw [if_neg (by simpa using h)]
    simp only [Option.bind_some]
    rw [if_neg (by simpa using h), wrap_in (by omega) (by omega)]
    by_cases h2 : (1048576 - (s.length : Int) - (l.length : Int)) < 0
    · exact ⟨-1, by simp [h2], by omega⟩
    · exact ⟨_, by rw [if_neg (by simpa using h2)]; simp only [Option.bind_some]; rw [if_neg (by simpa using h2)], by omega⟩
theorem toT (s : List Int) (l : List Ban) (hs : s.length ≤ 1048576) (hl : l.length ≤ 1048576) : GlToKindTable.P s l = some ⟨s, l⟩ := by
  simp only [GlToKindTable.P, toI s hs, toS l hl, Option.bind_some]
theorem eqI2 (l : List Int) : GlEqIntS.P l l = some true := by
  simp only [GlEqIntS.P, letK, iteK_if]
  rw [if_neg (by simp)]
  refine cnt_is true (fun _ _ => True) ?_ (fun s _ => rfl) () trivial
  intro k s nx hk _ hn
  obtain ⟨x, hx, hi⟩ := at_lt (l := l) (k := k) hk
  simp only [GlEqIntS.l0, hi, Option.bind_some, letK, appK, iteK_if]
  rw [if_neg (by simp)]
  exact hn () trivial
theorem eqT (s : List Int) (l : List Ban) : GlEqKindTable.P s l s l = some true := by
  simp [GlEqKindTable.P, eqI2, eqS, letK, iteK_if]
end Go.Proofs.Ytdbgmcgjklmkkaa.Q6Help

/- The laws' helpers on slices of ints as plain functions: equal, marked, held. Condition: at most 2^40 numbers. -/
namespace Go.Proofs.Ytdbgmcgjklmkkaa.QInt
set_option linter.unusedVariables false
set_option linter.unusedSimpArgs false
open Go.RowKit
open Go.Proofs.Ytdbgmcgjklmkkaa.GoP Go.Proofs.Ytdbgmcgjklmkkaa.QBase Go.Proofs.Ytdbgmcgjklmkkaa.QLoop

theorem eqI (l : List Int) : GlEqIntS.P l l = some true := by
  simp only [GlEqIntS.P, letK, iteK_if]
  rw [if_neg (by simp)]
  refine cnt_is true (fun _ _ => True) ?_ (fun s _ => rfl) () trivial
  intro k s nx hk _ hn
  obtain ⟨x, hx, hi⟩ := at_lt (l := l) (k := k) hk
  simp only [GlEqIntS.l0, hi, Option.bind_some, letK, appK, iteK_if]
  rw [if_neg (by simp)]
  exact hn () trivial
/-- 1, 2, 3 .. -/
def ups (n : Nat) : List Int := (List.range n).map (fun i : Nat => (i : Int) + 1)
theorem ups_at {n k : Nat} (h : k < n) : (ups n)[k]? = some ((k : Int) + 1) := by unfold ups; simp [h]
theorem ups_len (n : Nat) : (ups n).length = n := by simp [ups]
theorem markI (l : List Int) (hl : l.length ≤ 1099511627776) : GlMarkIntS.P l 1 = some ((l.length : Int) + 1, ups l.length) := by
  simp only [GlMarkIntS.P]
  refine cnt_is _ (fun k s => s.1.length = l.length ∧ s.2 = (k : Int) + 1 ∧ ∀ i, i < k → s.1[i]? = some ((i : Int) + 1)) ?_ ?_ (l, 1) ⟨rfl, rfl, fun i hi => by omega⟩
  · rintro k ⟨a, b⟩ nx hk ⟨h1, h2, h3⟩ hn
    dsimp only at h1 h2 h3
    obtain ⟨x, hx, hi⟩ := at_lt (l := a) (k := k) (by omega)
    simp only [GlMarkIntS.l0, unp2, hi, Option.bind_some, letK, appK]
    rw [wrap_in (by omega) (by omega)]
    refine hn _ ⟨by simpa using h1, by dsimp only; omega, fun i hi2 => ?_⟩
    dsimp only
    by_cases he : i = k
    · subst he; rw [List.getElem?_set_self (by omega), h2]
    · rw [List.getElem?_set_ne (by omega)]; exact h3 i (by omega)
  · rintro ⟨a, b⟩ ⟨h1, h2, h3⟩
    dsimp only at h1 h2 h3
    have : a = ups l.length := by
      apply List.ext_getElem?
      intro i
      by_cases hi : i < l.length
      · rw [h3 i hi, ups_at hi]
      · rw [List.getElem?_eq_none (by omega), List.getElem?_eq_none (by rw [ups_len]; omega)]
    simp only [GlMarkIntS.e0, unp2]
    rw [this, h2]
theorem heldI (n : Nat) (hl : n ≤ 1099511627776) : GlHeldIntS.P (ups n) 1 = some ((n : Int) + 1) := by
  simp only [GlHeldIntS.P]
  refine cnt_is _ (fun k s => s = (k : Int) + 1) ?_ ?_ 1 rfl
  · intro k s nx hk hI hn
    rw [ups_len] at hk
    have hi : idx (ups n) (k : Int) = some ((k : Int) + 1) := by rw [idx_nat, ups_at hk]
    simp only [GlHeldIntS.l0, hi, Option.bind_some, letK, appK, iteK_if]
    rw [if_neg (by simp [hI]), wrap_in (by omega) (by omega)]
    exact hn _ (by omega)
  · intro s hI
    simp only [GlHeldIntS.e0, letK]
    rw [hI, ups_len]
/-- a loop that gathers -/
theorem gather {α β R : Type} {l : List α} {p : α → Bool} {g : α → β} {f : Nat → List β → (List β → Option R) → (List β → Option R) → Option R} {fin : List β → Option R} (hl : l.length ≤ 1099511627776)
    (step : ∀ k nx x s, l[k]? = some x → s.length ≤ 1099511627776 → f k s nx fin = nx (if p x then s ++ [g x] else s)) : cntK f l.length 0 [] fin = fin ((l.filter p).map g) := by
  have key : ∀ m k, k + m = l.length → cntK f m k (((l.take k).filter p).map g) fin = fin ((l.filter p).map g) := by
    intro m
    induction m with
    | zero => intro k hk; obtain rfl : k = l.length := by omega
              rw [List.take_of_length_le (Nat.le_refl _)]; rfl
    | succ m ih =>
      intro k hk
      obtain ⟨x, hx, _⟩ := at_lt (l := l) (k := k) (by omega)
      show f k _ _ fin = _
      have hle : (((l.take k).filter p).map g).length ≤ 1099511627776 := by
        rw [List.length_map]
        have := List.length_filter_le p (l.take k)
        rw [List.length_take] at this
        omega
      rw [step k _ x _ hx hle, ← ih (k + 1) (by omega), take_next hx, List.filter_append, List.map_append]
      cases hp : p x <;> simp [List.filter, hp]
  exact key l.length 0 (by omega)
end Go.Proofs.Ytdbgmcgjklmkkaa.QInt

/- Chapter 6: kinds in their order, as numbers: the program's search and the reference's. (Q6Mark) No condition but those of each theorem. -/
namespace Go.Proofs.Ytdbgmcgjklmkkaa.Q6Mark
set_option linter.unusedVariables false
set_option linter.unusedSimpArgs false
open Go.RowKit
open Go.Proofs.Ytdbgmcgjklmkkaa.GoP Go.Proofs.Ytdbgmcgjklmkkaa.PlainStamp Go.Proofs.Ytdbgmcgjklmkkaa.QBase Go.Proofs.Ytdbgmcgjklmkkaa.Q6Help Go.Proofs.Ytdbgmcgjklmkkaa.QLoop Go.Proofs.Ytdbgmcgjklmkkaa.PBan Go.Proofs.Ytdbgmcgjklmkkaa.QInt

theorem set_at {α : Type} {l : List α} {k : Nat} (x : α) (h : k < l.length) : idx (l.set k x) (k : Int) = some x := by rw [idx_nat, List.getElem?_set_self h]
theorem markB (l : List Ban) (hl : l.length ≤ 1048576) (c : Int) (h0 : 0 ≤ c) (h1 : c ≤ 4294967296) : ∃ v l', GlMarkBanS.P l c = some (v, l') ∧ 0 ≤ v ∧ v ≤ 4294967296 * 2 := by
  obtain ⟨⟨v, l'⟩, h, hv⟩ : ∃ r : Int × List Ban, GlMarkBanS.P l c = some r ∧ 0 ≤ r.1 ∧ r.1 ≤ 4294967296 * 2 := by
    simp only [GlMarkBanS.P]
    refine cnt_ex (n := l.length) (Q := fun r : Int × List Ban => 0 ≤ r.1 ∧ r.1 ≤ 4294967296 * 2) (fun k (s : List Ban × Int) => s.1.length = l.length ∧ s.2 = 4 * (k : Int) + c) ?_ ?_ l.length 0 (l, c) (by omega) ⟨rfl, by simp⟩
    · rintro k ⟨a, b⟩ nx hk ⟨h1, h2⟩ hn
      dsimp only at h1 h2
      obtain ⟨x, hx, hi⟩ := at_lt (l := a) (k := k) (by omega)
      have ha : k < a.length := by omega
      have w1 : IntKind.i64.wrap (b + 1) = b + 1 := wrap_in (by omega) (by omega)
      have w2 : IntKind.i64.wrap (b + 1 + 1) = b + 1 + 1 := wrap_in (by omega) (by omega)
      have w3 : IntKind.i64.wrap (b + 1 + 1 + 1) = b + 1 + 1 + 1 := wrap_in (by omega) (by omega)
      have w4 : IntKind.i64.wrap (b + 1 + 1 + 1 + 1) = b + 1 + 1 + 1 + 1 := wrap_in (by omega) (by omega)
      simp (disch := simp [ha]) only [GlMarkBanS.l0, unp2, hi, set_at, Option.bind_some, unBan, letK, appK, w1, w2, w3, w4]
      exact hn _ ⟨by simpa using h1, by dsimp only; omega⟩
    · rintro ⟨a, b⟩ ⟨h1, h2⟩
      exact ⟨_, rfl, by dsimp only at h2 ⊢; omega⟩
  exact ⟨v, l', h, hv⟩
theorem markT (s : List Int) (l : List Ban) (hs : s.length ≤ 1048576) (hl : l.length ≤ 1048576) : ∃ v a b, GlMarkKindTable.P s l 1 = some (v, a, b) ∧ 0 ≤ v ∧ v ≤ 4294967296 * 2 := by
  simp only [GlMarkKindTable.P, markI s (by omega), bind2_some]
  obtain ⟨v, l', h, hv⟩ := markB l hl ((s.length : Int) + 1) (by omega) (by omega)
  exact ⟨v, _, l', by rw [h, bind2_some], hv⟩

theorem markI2 (l : List Int) (hl : l.length ≤ 1048576) (c : Int) (h0 : 0 ≤ c) (h1 : c ≤ 4294967296 * 2) : ∃ v l', GlMarkIntS.P l c = some (v, l') ∧ 0 ≤ v := by
  obtain ⟨⟨v, l'⟩, h, hv⟩ : ∃ r : Int × List Int, GlMarkIntS.P l c = some r ∧ 0 ≤ r.1 := by
    simp only [GlMarkIntS.P]
    refine cnt_ex (n := l.length) (Q := fun r : Int × List Int => 0 ≤ r.1) (fun k (s : List Int × Int) => s.1.length = l.length ∧ s.2 = (k : Int) + c) ?_ ?_ l.length 0 (l, c) (by omega) ⟨rfl, by simp⟩
    · rintro k ⟨a, b⟩ nx hk ⟨h1, h2⟩ hn
      dsimp only at h1 h2
      obtain ⟨x, hx, hi⟩ := at_lt (l := a) (k := k) (by omega)
      simp only [GlMarkIntS.l0, unp2, hi, Option.bind_some, letK, appK]
      rw [wrap_in (by omega) (by omega)]
      exact hn _ ⟨by simpa using h1, by dsimp only; omega⟩
    · rintro ⟨a, b⟩ ⟨h1, h2⟩
      exact ⟨_, rfl, by dsimp only at h2 ⊢; omega⟩
  exact ⟨v, l', h, hv⟩
end Go.Proofs.Ytdbgmcgjklmkkaa.Q6Mark

/- Needless bans: the plain functions of the program and of the reference agree, and the law answers true. (QL6Need) No condition but those of each theorem. -/
namespace Go.Proofs.Ytdbgmcgjklmkkaa.QL6Need
set_option linter.unusedVariables false
set_option linter.unusedSimpArgs false
open Go.RowKit
open Go.Proofs.Ytdbgmcgjklmkkaa.GoP Go.Proofs.Ytdbgmcgjklmkkaa.PlainStamp Go.Proofs.Ytdbgmcgjklmkkaa.QBase Go.Proofs.Ytdbgmcgjklmkkaa.Q6Need Go.Proofs.Ytdbgmcgjklmkkaa.Q6Tab Go.Proofs.Ytdbgmcgjklmkkaa.Q6Mark Go.Proofs.Ytdbgmcgjklmkkaa.Q6Help Go.Proofs.Ytdbgmcgjklmkkaa.QLoop Go.Proofs.Ytdbgmcgjklmkkaa.PBan Go.Proofs.Ytdbgmcgjklmkkaa.QInt

theorem law_need (fuel : Nat) (hf : 3200 ≤ fuel) (s : List Int) (l : List Ban) (hs : s.length ≤ 9223372036854775807) (hl : l.length ≤ 9223372036854775807) : GlFnExactNeedlessBans.P fuel s l = some true := by
  obtain ⟨c, hc, hb⟩ := szT s l hs hl
  simp only [GlFnExactNeedlessBans.P, hc, Option.bind_some, letK, iteK_if]
  by_cases h : c < 0
  · simp [h]
  · obtain ⟨h1, h2⟩ := hb (by omega)
    obtain ⟨⟨a, b⟩, hr, hlen⟩ : ∃ x, x = ndRes s l ∧ x.1.length ≤ 1048576 := by
      refine ⟨_, rfl, ?_⟩
      unfold ndRes
      split
      · have := ndTo_len s l l.length; dsimp only; omega
      · simp
    obtain ⟨v, x, y, hm, hv⟩ := markT s l h1 h2
    dsimp only at hlen
    have hv2 : ¬ v < 0 := by omega
    have e1 : ¬ ((a.length : Int) + 1 < 0) := by omega
    simp [h, toT s l h1 h2, unKindTable, need_impl fuel hf s l hs hl, need_spec fuel hf s l hs hl, ← hr, eqT, eqI, hm, hv2, markI a (by omega), heldI a.length (by omega), e1, bind2, bind3, joinK, appK, iteK_if]
end Go.Proofs.Ytdbgmcgjklmkkaa.QL6Need

/- A slice of strings or of integers that lies in a record that came in: the list that it reads as. No condition. -/
namespace Go.Proofs.Ytdbgmcgjklmkkaa.OpenNest
set_option linter.unusedVariables false
open Go.Joins Go.ChangeShapes Go.WideShapes Go.RowKit Go.Deep Go.Proofs.Ytdbgmcgjklmkkaa.Rowed
theorem len1 {l : List Value} (h : l.length = 1) : ∃ a, l = [a] := List.length_eq_one_iff.1 h
theorem len2 {l : List Value} (h : l.length = 2) : ∃ a b, l = [a, b] := by
  match l, h with
  | [a, b], _ => exact ⟨a, b, rfl⟩
theorem len3 {l : List Value} (h : l.length = 3) : ∃ a b c, l = [a, b, c] := by
  match l, h with
  | [a, b, c], _ => exact ⟨a, b, c, rfl⟩
theorem len4 {l : List Value} (h : l.length = 4) : ∃ a b c d, l = [a, b, c, d] := by
  match l, h with
  | [a, b, c, d], _ => exact ⟨a, b, c, d, rfl⟩
theorem len5 {l : List Value} (h : l.length = 5) : ∃ a b c d e, l = [a, b, c, d, e] := by
  match l, h with
  | [a, b, c, d, e], _ => exact ⟨a, b, c, d, e, rfl⟩
section
variable {H : Type} {enc : TypeId × Value → H} {P : Program} {w : World}
theorem one_strs {t e : TypeId} {fuel : Nat} {u : Value} {x : DataW H × List MemPlace} (ht : P.underlying t = some (.slice e)) (he : P.underlying e = some .string) (hc : P.cellsOf e = 1)
    (h : DataW.trod enc P w 0 (fun _ => true) true fuel t [u] = some x) :
    ∃ (a : Option Addr) (len cap : Nat) (l : List ByteArray), u = .slice a len cap ∧ Cells w 1 a len (l.map Value.string) ∧ l.length = len ∧ len ≤ maxLen ∧ ∀ s ∈ l, s.size ≤ maxLen := by
  rcases open_strings ht he hc h with ⟨hcs, _⟩ | ⟨x, l, c, zs, hcs, hxb, hl, hm, hz, hdat, hcell, hwz⟩
  · obtain rfl : u = .slice none 0 0 := by simpa using hcs
    exact ⟨none, 0, 0, [], rfl, Cells.nil_ _ _ _, rfl, by unfold maxLen; omega, by intro s hs; simp at hs⟩
  · obtain rfl : u = .slice (some x) l c := by simpa using hcs
    have hz' : zs.length = c := by simpa using hz
    refine ⟨some x, l, c, zs.take l, rfl, ⟨by rw [List.length_map, List.length_take]; omega, fun _ => ⟨x, rfl, fun j u hu => ?_⟩⟩, by rw [List.length_take]; omega, by omega, fun s hs => hwz s (List.mem_of_mem_take hs)⟩
    rw [List.getElem?_map] at hu
    cases hj : (zs.take l)[j]? with
    | none => rw [hj] at hu; simp at hu
    | some y =>
      rw [hj] at hu
      obtain rfl : Value.string y = u := by simpa using hu
      have hjl := (List.getElem?_eq_some_iff.1 hj).1
      rw [List.length_take] at hjl
      rw [List.getElem?_take_of_lt (by omega)] at hj
      rw [hcell j (by omega), List.getD_eq_getElem?_getD, hj]; rfl
theorem one_ints {t e : TypeId} {fuel : Nat} {u : Value} {x : DataW H × List MemPlace} (ht : P.underlying t = some (.slice e)) (he : P.underlying e = some (.int .i64)) (hc : P.cellsOf e = 1)
    (h : DataW.trod enc P w 0 (fun _ => true) true fuel t [u] = some x) :
    ∃ (a : Option Addr) (len cap : Nat) (l : List Int), u = .slice a len cap ∧ Cells w 1 a len (l.map (Value.int .i64)) ∧ l.length = len ∧ len ≤ maxLen ∧ ∀ n ∈ l, (Lit.int .i64 n).wf = true := by
  rcases open_ints ht he hc h with ⟨hcs, _⟩ | ⟨x, l, c, zs, hcs, hxb, hl, hm, hz, hdat, hcell, hwz⟩
  · obtain rfl : u = .slice none 0 0 := by simpa using hcs
    exact ⟨none, 0, 0, [], rfl, Cells.nil_ _ _ _, rfl, by unfold maxLen; omega, by intro s hs; simp at hs⟩
  · obtain rfl : u = .slice (some x) l c := by simpa using hcs
    have hz' : zs.length = c := by simpa using hz
    refine ⟨some x, l, c, zs.take l, rfl, ⟨by rw [List.length_map, List.length_take]; omega, fun _ => ⟨x, rfl, fun j u hu => ?_⟩⟩, by rw [List.length_take]; omega, by omega, fun s hs => hwz s (List.mem_of_mem_take hs)⟩
    rw [List.getElem?_map] at hu
    cases hj : (zs.take l)[j]? with
    | none => rw [hj] at hu; simp at hu
    | some y =>
      rw [hj] at hu
      obtain rfl : Value.int .i64 y = u := by simpa using hu
      have hjl := (List.getElem?_eq_some_iff.1 hj).1
      rw [List.length_take] at hjl
      rw [List.getElem?_take_of_lt (by omega)] at hj
      rw [hcell j (by omega), List.getD_eq_getElem?_getD, hj]; rfl
end
end Go.Proofs.Ytdbgmcgjklmkkaa.OpenNest

