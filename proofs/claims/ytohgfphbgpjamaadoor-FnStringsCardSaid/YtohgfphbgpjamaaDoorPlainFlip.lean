/- Plain facts: a sealed string with one byte changed is no sealed string. No condition. -/
import Derived.Test.YtohgfphbgpjamaaDoorPlainVerify
namespace Go.Proofs.YtohgfphbgpjamaaDoor.PlainFlip
set_option linter.unusedVariables false
open Go.Proofs.YtohgfphbgpjamaaDoor.PlainSum Go.Proofs.YtohgfphbgpjamaaDoor.PlainNum Go.Proofs.YtohgfphbgpjamaaDoor.PlainSeal Go.Proofs.YtohgfphbgpjamaaDoor.PlainVerify

theorem step_inj (h h' : Int) (c : UInt8) (a1 : 0 ≤ h) (a2 : h < 999979) (b1 : 0 ≤ h') (b2 : h' < 999979) (e : PlainSum.step h c = PlainSum.step h' c) : h = h' := by
  unfold PlainSum.step at e; omega
theorem fold_inj (l : List UInt8) : ∀ h h' : Int, 0 ≤ h → h < 999979 → 0 ≤ h' → h' < 999979 → l.foldl PlainSum.step h = l.foldl PlainSum.step h' → h = h' := by
  induction l with
  | nil => intro h h' _ _ _ _ e; exact e
  | cons c r ih =>
    intro h h' a1 a2 b1 b2 e
    have := ih _ _ (step_bd h c).1 (step_bd h c).2 (step_bd h' c).1 (step_bd h' c).2 e
    exact step_inj h h' c a1 a2 b1 b2 this
theorem step_diff (h : Int) (c d : UInt8) (e : PlainSum.step h c = PlainSum.step h d) : c = d := by
  unfold PlainSum.step at e
  have h1 := c.toNat_lt
  have h2 := d.toNat_lt
  exact UInt8.toNat_inj.1 (by omega)
theorem ck_diff (p r : List UInt8) (c d : UInt8) (e : ck (p ++ c :: r) = ck (p ++ d :: r)) : c = d := by
  unfold ck at e
  rw [List.foldl_append, List.foldl_append, List.foldl_cons, List.foldl_cons] at e
  have b := fold_bd p 7 (by omega) (by omega)
  exact step_diff _ c d (fold_inj r _ _ (step_bd _ c).1 (step_bd _ c).2 (step_bd _ d).1 (step_bd _ d).2 e)

theorem no_mark_itoa (n : Int) (h : 0 ≤ n) : (35 : UInt8) ∉ Lib.itoa n := by
  intro hm
  rcases itoa_cases n with ⟨hn, e⟩ | ⟨_, e⟩
  · omega
  · rw [e] at hm
    have := digs_dec n.natAbs 35 hm
    have e35 : (35 : UInt8).toNat = 35 := rfl
    omega
theorem itoa_inj (n m : Int) (h1 : -999999 ≤ n ∧ n ≤ 999999) (h2 : -999999 ≤ m ∧ m ≤ 999999) (e : Lib.itoa n = Lib.itoa m) : n = m := by
  have a := atoi_itoa n h1.1 h1.2
  have b := atoi_itoa m h2.1 h2.2
  rw [e, b] at a
  injection a with a
  exact a.symm

/-- a text and another one behind the same mark -/
theorem text_flip (p r : List UInt8) (c v : UInt8) (hok : Ok (p ++ c :: r)) (hv : v ≠ c) (t : List UInt8) (ht : Ok t) (e : sealed t = (p ++ v :: r) ++ 35 :: Lib.itoa (ck (p ++ c :: r))) : False := by
  have hp : (35 : UInt8) ∉ p := fun h => hok.2.1 (by simp [h])
  have hr : (35 : UInt8) ∉ r := fun h => hok.2.1 (by simp [h])
  have htu := upto_sealed t ht.2.1
  by_cases h35 : v = 35
  · subst h35
    have e1 : (p ++ 35 :: r) ++ 35 :: Lib.itoa (ck (p ++ c :: r)) = p ++ 35 :: (r ++ 35 :: Lib.itoa (ck (p ++ c :: r))) := by simp
    rw [e1] at e
    rw [e, upto_app _ _ hp] at htu
    subst htu
    unfold sealed at e
    have e2 := List.append_cancel_left e
    injection e2 with _ e2
    exact no_mark_itoa (ck p) (ck_bd p).1 (by rw [e2]; simp)
  · have hq : (35 : UInt8) ∉ p ++ v :: r := by
      intro h
      rcases List.mem_append.1 h with h1 | h1
      · exact hp h1
      · rcases List.mem_cons.1 h1 with h2 | h2
        · exact h35 h2.symm
        · exact hr h2
    rw [e, upto_app _ _ hq] at htu
    subst htu
    unfold sealed at e
    have e2 := List.append_cancel_left e
    injection e2 with _ e2
    exact hv (ck_diff p r v c (itoa_inj _ _ (ck_num _) (ck_num _) e2))
theorem mark_flip (u : List UInt8) (v : UInt8) (hok : Ok u) (hv : v ≠ 35) (t : List UInt8) (ht : Ok t) (e : sealed t = u ++ v :: Lib.itoa (ck u)) : False := by
  have hm : (35 : UInt8) ∈ sealed t := by unfold sealed; simp
  rw [e] at hm
  rcases List.mem_append.1 hm with h1 | h1
  · exact hok.2.1 h1
  · rcases List.mem_cons.1 h1 with h2 | h2
    · exact hv h2.symm
    · exact no_mark_itoa (ck u) (ck_bd u).1 h2
theorem sum_flip (u d : List UInt8) (hok : Ok u) (hd : d ≠ Lib.itoa (ck u)) (t : List UInt8) (ht : Ok t) (e : sealed t = u ++ 35 :: d) : False := by
  have htu := upto_sealed t ht.2.1
  rw [e, upto_app _ _ hok.2.1] at htu
  subst htu
  unfold sealed at e
  have e2 := List.append_cancel_left e
  injection e2 with _ e2
  exact hd e2.symm

theorem set_app (a b : List UInt8) (k : Nat) (v : UInt8) : (a ++ b).set k v = if k < a.length then a.set k v ++ b else a ++ b.set (k - a.length) v := by
  by_cases h : k < a.length
  · rw [if_pos h, List.set_append_left _ _ h]
  · rw [if_neg h, List.set_append_right _ _ (by omega)]

/-- one byte of a sealed string changed -/
theorem flip_bad (u : List UInt8) (hok : Ok u) (k : Nat) (v : UInt8) (hk : k < (sealed u).length) (hv : (sealed u)[k]? ≠ some v) (t : List UInt8) (ht : Ok t) : sealed t ≠ (sealed u).set k v := by
  intro e
  unfold sealed at hk hv e
  by_cases h1 : k < u.length
  · have eu : u = u.take k ++ u[k] :: u.drop (k + 1) := by
      conv => lhs; rw [← List.take_append_drop k u]
      rw [List.drop_eq_getElem_cons h1]
    have es : u.set k v = u.take k ++ v :: u.drop (k + 1) := List.set_eq_take_append_cons_drop .. |>.trans (by rw [if_pos h1])
    rw [set_app, if_pos h1, es] at e
    rw [List.getElem?_append_left h1, List.getElem?_eq_getElem h1] at hv
    have hok' : Ok (u.take k ++ u[k] :: u.drop (k + 1)) := by rw [← eu]; exact hok
    refine text_flip (u.take k) (u.drop (k + 1)) u[k] v hok' (fun h => hv (by rw [h])) t ht ?_
    rw [← eu]
    exact e
  · rw [set_app, if_neg h1] at e
    rw [List.getElem?_append_right (by omega)] at hv
    by_cases h2 : k = u.length
    · subst h2
      rw [Nat.sub_self] at e hv
      exact mark_flip u v hok (fun h => hv (by rw [h]; rfl)) t ht e
    · obtain ⟨j, hj⟩ : ∃ j, k - u.length = j + 1 := ⟨k - u.length - 1, by omega⟩
      rw [hj] at e hv
      rw [List.set_cons_succ] at e
      rw [List.getElem?_cons_succ] at hv
      have hjl : j < (Lib.itoa (ck u)).length := by
        rw [List.length_append, List.length_cons] at hk; omega
      refine sum_flip u _ hok (fun h => hv ?_) t ht e
      rw [← h, List.getElem?_set, if_pos rfl, if_pos hjl]

theorem flip_vf (u : List UInt8) (hok : Ok u) (k : Nat) (v : UInt8) (hk : k < (sealed u).length) (hv : (sealed u)[k]? ≠ some v) : Vf ((sealed u).set k v) [] false :=
  .inr ⟨rfl, rfl, fun t ht e => flip_bad u hok k v hk hv t ht e⟩
end Go.Proofs.YtohgfphbgpjamaaDoor.PlainFlip
