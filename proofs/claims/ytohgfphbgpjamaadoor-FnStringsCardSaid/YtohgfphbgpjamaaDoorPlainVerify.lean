/- Plain facts on the opening of sealed strings: the text of a sealed string is what stands ahead of its first mark. No condition. -/
import Derived.Test.YtohgfphbgpjamaaDoorPlainSeal
import Derived.Test.YtohgfphbgpjamaaDoorPlainSplit
import Derived.Lib.IndexMore
import Derived.Lib.IndexBytes
import Derived.Lib.IndexLaws
namespace Go.Proofs.YtohgfphbgpjamaaDoor.PlainVerify
open Go.Proofs.YtohgfphbgpjamaaDoor.PlainSum Go.Proofs.YtohgfphbgpjamaaDoor.PlainNum Go.Proofs.YtohgfphbgpjamaaDoor.PlainSeal Go.Proofs.YtohgfphbgpjamaaDoor.PlainSplit

def upto (l : List UInt8) : List UInt8 := l.takeWhile (fun c => c != 35)
/-- how opening ends -/
def Vf (l t : List UInt8) (b : Bool) : Prop := (b = true ∧ Ok t ∧ sealed t = l) ∨ (b = false ∧ t = [] ∧ ∀ u, Ok u → sealed u ≠ l)

theorem upto_app (u r : List UInt8) (h : (35 : UInt8) ∉ u) : upto (u ++ 35 :: r) = u := by
  induction u with
  | nil => rfl
  | cons c u ih =>
    have hc : (c != 35) = true := by
      have : c ≠ 35 := fun e => h (by simp [e])
      simpa using this
    show (c :: (u ++ 35 :: r)).takeWhile _ = _
    rw [List.takeWhile_cons, if_pos hc]
    have := ih (fun hm => h (by simp [hm]))
    unfold upto at this
    rw [this]
theorem upto_sealed (u : List UInt8) (h : (35 : UInt8) ∉ u) : upto (sealed u) = u := upto_app u _ h
theorem upto_not (l : List UInt8) : (35 : UInt8) ∉ upto l := by
  induction l with
  | nil => simp [upto]
  | cons c r ih =>
    unfold upto at ih ⊢
    rw [List.takeWhile_cons]
    by_cases hc : (c != 35) = true
    · rw [if_pos hc]
      intro h
      rcases List.mem_cons.1 h with h1 | h1
      · subst h1; simp at hc
      · exact ih h1
    · rw [if_neg hc]; simp
theorem upto_len (l : List UInt8) : (upto l).length ≤ l.length := (List.takeWhile_sublist _).length_le

theorem Vf.uniq {l t t' : List UInt8} {b b' : Bool} (h : Vf l t b) (k : Vf l t' b') : t = t' ∧ b = b' := by
  rcases h with ⟨rfl, h1, h2⟩ | ⟨rfl, h1, h2⟩ <;> rcases k with ⟨rfl, k1, k2⟩ | ⟨rfl, k1, k2⟩
  · refine ⟨?_, rfl⟩
    rw [← upto_sealed t h1.2.1, ← upto_sealed t' k1.2.1, h2, k2]
  · exact absurd h2 (k2 t h1)
  · exact absurd k2 (h2 t' k1)
  · exact ⟨h1.trans k1.symm, rfl⟩

theorem no_long {l : List UInt8} (h : 4000 < l.length) : Vf l [] false := .inr ⟨rfl, rfl, fun u hu e => by have := hu.2.2; rw [e] at this; omega⟩
theorem no_eq {l : List UInt8} (h : sealed (upto l) ≠ l) : Vf l [] false :=
  .inr ⟨rfl, rfl, fun u hu e => h (by rw [← e, upto_sealed u hu.2.1])⟩
theorem no_ok {l : List UInt8} (h : ¬ Ok (upto l)) : Vf l [] false :=
  .inr ⟨rfl, rfl, fun u hu e => h (by rw [← e, upto_sealed u hu.2.1]; exact hu)⟩
theorem no_mark {l : List UInt8} (h : (35 : UInt8) ∉ l) : Vf l [] false :=
  .inr ⟨rfl, rfl, fun u _ e => h (by rw [← e]; unfold sealed; simp)⟩
theorem yes_eq {l : List UInt8} (hl : l.length ≤ 4000) (h : sealed (upto l) = l) : Vf l (upto l) true :=
  .inl ⟨rfl, ⟨by have := upto_len l; omega, upto_not l, by rw [h]; exact hl⟩, h⟩

/-- the first piece of a splitting at the mark is what stands ahead of it -/
theorem pre_first (s : ByteArray) (k : Nat) (hk : k ≤ s.size) :
    ((35 : UInt8) ∉ s.data.toList.take k ∧ pre s 35 k = ([], 0)) ∨ ∃ p r, (pre s 35 k).1 = p :: r ∧ p.data.toList = upto s.data.toList := by
  induction k with
  | zero => left; exact ⟨by simp, rfl⟩
  | succ k ih =>
    have hlt : k < s.data.toList.length := by have : s.data.toList.length = s.size := by simp
                                              omega
    have htk : s.data.toList.take (k + 1) = s.data.toList.take k ++ [s.data.toList[k]] := List.take_succ_eq_append_getElem hlt
    rcases ih (by omega) with ⟨h1, h2⟩ | ⟨p, r, h1, h2⟩
    · by_cases hb : s.data.toList[k] = 35
      · right
        refine ⟨s.extract 0 k, [], ?_, ?_⟩
        · rw [pre, if_pos (by rw [List.getElem?_eq_getElem hlt, hb]), h2]; rfl
        · rw [Lib.extract_data]
          have e : s.data.toList = s.data.toList.take k ++ 35 :: s.data.toList.drop (k + 1) := by
            conv => lhs; rw [← List.take_append_drop k s.data.toList]
            rw [List.drop_eq_getElem_cons hlt, hb]
          conv => rhs; rw [e]
          rw [upto_app _ _ h1]
          simp
      · left
        refine ⟨?_, ?_⟩
        · rw [htk]; intro hm
          rcases List.mem_append.1 hm with h3 | h3
          · exact h1 h3
          · exact hb (List.mem_singleton.1 h3).symm
        · rw [pre, if_neg (by rw [List.getElem?_eq_getElem hlt]; simpa using hb)]; exact h2
    · right
      by_cases hb : s.data.toList[k]? = some 35
      · exact ⟨p, r ++ [s.extract (pre s 35 k).2 k], by rw [pre, if_pos hb, h1]; rfl, h2⟩
      · exact ⟨p, r, by rw [pre, if_neg hb, h1], h2⟩

theorem upto_all (l : List UInt8) (h : (35 : UInt8) ∉ l) : upto l = l := by
  induction l with
  | nil => rfl
  | cons c r ih =>
    have hc : (c != 35) = true := by
      have : c ≠ 35 := fun e => h (by simp [e])
      simpa using this
    unfold upto at ih ⊢
    rw [List.takeWhile_cons, if_pos hc, ih (fun hm => h (by simp [hm]))]

theorem split_first (s : ByteArray) : ∃ p r, split s 35 = p :: r ∧ p.data.toList = upto s.data.toList := by
  have el : s.data.toList.length = s.size := by simp
  rcases pre_first s s.size (Nat.le_refl _) with ⟨h1, h2⟩ | ⟨p, r, h1, h2⟩
  · refine ⟨s.extract 0 s.size, [], ?_, ?_⟩
    · unfold split outs frm; rw [h2]; rfl
    · rw [List.take_of_length_le (by omega)] at h1
      rw [Lib.extract_data, upto_all _ h1]
      simp
      exact List.take_of_length_le (by omega)
  · exact ⟨p, r ++ [s.extract (frm s 35 s.size) s.size], by unfold split outs; rw [h1]; rfl, h2⟩

/-- strings.Cut at the mark: found or not -/
theorem cut_no (l : List UInt8) (h : (35 : UInt8) ∉ l) : (Lib.cut l [35]).2.2 = false := by
  unfold Lib.cut
  rw [Lib.index_one]
  have h0 : ¬ 0 ≤ Lib.indexByte l 35 := by
    intro h0
    obtain ⟨o, ho⟩ : ∃ o : Nat, Lib.indexByte l 35 = o := ⟨(Lib.indexByte l 35).toNat, by omega⟩
    have := (Lib.indexByte_some ho).1
    exact h (List.mem_of_getElem? this)
  rw [if_neg h0]
theorem cut_yes (l : List UInt8) (h : (35 : UInt8) ∈ l) : (Lib.cut l [35]).2.2 = true ∧ (Lib.cut l [35]).1 = upto l := by
  unfold Lib.cut
  rw [Lib.index_one]
  have h0 : 0 ≤ Lib.indexByte l 35 := by
    rcases Int.lt_or_le (Lib.indexByte l 35) 0 with h1 | h1
    · have h2 : Lib.indexByte l 35 = -1 := by have := Lib.indexByte_ge l 35; omega
      obtain ⟨k, hk⟩ := List.getElem?_of_mem h
      exact absurd hk (Lib.indexByte_none h2 k)
    · exact h1
  rw [if_pos h0]
  refine ⟨rfl, ?_⟩
  obtain ⟨o, ho⟩ : ∃ o : Nat, Lib.indexByte l 35 = o := ⟨(Lib.indexByte l 35).toNat, by omega⟩
  obtain ⟨h1, h2⟩ := Lib.indexByte_some ho
  rw [ho]
  have hlt : o < l.length := (List.getElem?_eq_some_iff.1 h1).1
  have hb : l[o] = 35 := (List.getElem?_eq_some_iff.1 h1).2
  have e : l = l.take o ++ 35 :: l.drop (o + 1) := by
    conv => lhs; rw [← List.take_append_drop o l]
    rw [List.drop_eq_getElem_cons hlt, hb]
  have hn : (35 : UInt8) ∉ l.take o := by
    intro hm
    obtain ⟨k, hk⟩ := List.getElem?_of_mem hm
    have hk2 : k < o := by
      have := (List.getElem?_eq_some_iff.1 hk).1
      rw [List.length_take] at this; omega
    rw [List.getElem?_take_of_lt hk2] at hk
    exact h2 k hk2 hk
  show l.take (o : Int).toNat = _
  conv => rhs; rw [e]
  rw [upto_app _ _ hn]; rfl
end Go.Proofs.YtohgfphbgpjamaaDoor.PlainVerify
