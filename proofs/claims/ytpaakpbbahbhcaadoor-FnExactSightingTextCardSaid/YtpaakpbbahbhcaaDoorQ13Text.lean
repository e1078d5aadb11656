/- Chapter 13: a sighting's text: the plain functions of the program and of the reference agree, and the law answers true. (Q13Text) No condition but those of each theorem. -/
import Derived.Test.YtpaakpbbahbhcaaDoorQ13One
import Derived.Test.YtpaakpbbahbhcaaDoorQ1Rise
import Derived.Test.YtpaakpbbahbhcaaDoorQWord
import Derived.Test.YtpaakpbbahbhcaaDoorQNum
import Derived.Test.YtpaakpbbahbhcaaDoorQText
import Derived.Test.YtpaakpbbahbhcaaDoorQLoop
import Derived.Test.YtpaakpbbahbhcaaDoorQUp
import Derived.Test.YtpaakpbbahbhcaaDoorPlainFace
import Derived.Test.YtpaakpbbahbhcaaDoorPSighting
import Derived.Test.YtpaakpbbahbhcaaDoorGiSightingText
import Derived.Test.YtpaakpbbahbhcaaDoorGsSightingText
namespace Go.Proofs.YtpaakpbbahbhcaaDoor.Q13Text
set_option linter.unusedVariables false
set_option linter.unusedSimpArgs false
open Go.RowKit
open Go.Proofs.YtpaakpbbahbhcaaDoor.GoP Go.Proofs.YtpaakpbbahbhcaaDoor.PlainStamp Go.Proofs.YtpaakpbbahbhcaaDoor.QBase Go.Proofs.YtpaakpbbahbhcaaDoor.Q13One Go.Proofs.YtpaakpbbahbhcaaDoor.Q1Rise Go.Proofs.YtpaakpbbahbhcaaDoor.QWord Go.Proofs.YtpaakpbbahbhcaaDoor.QNum Go.Proofs.YtpaakpbbahbhcaaDoor.QText Go.Proofs.YtpaakpbbahbhcaaDoor.QLoop Go.Proofs.YtpaakpbbahbhcaaDoor.QUp Go.Proofs.YtpaakpbbahbhcaaDoor.PlainFace Go.Proofs.YtpaakpbbahbhcaaDoor.PSighting

def tlT (k : List Int) : List UInt8 := k.flatMap fun v => [32, 35] ++ Lib.itoa v
theorem tlT_snoc (k : List Int) (v : Int) : tlT (k ++ [v]) = tlT k ++ ([32, 35] ++ Lib.itoa v) := by simp [tlT]
theorem tlT_take {k : List Int} (hk : ∀ v ∈ k, 1 ≤ v ∧ v ≤ 50) : ∀ j, j ≤ k.length → (tlT (k.take j)).length ≤ 9 * j := by
  intro j
  induction j with
  | zero => intro _; simp [tlT]
  | succ j ih =>
    intro hj
    have h1 := ih (by omega)
    obtain ⟨v, hv, _⟩ := at_lt (l := k) (k := j) (by omega)
    have h2 := hk v (List.mem_of_getElem? hv)
    have h3 := itoaB_size (n := v) (by omega) (by omega)
    rw [itoaB_str, str_size] at h3
    rw [take_next hv, tlT_snoc]
    simp only [List.length_append, List.length_cons, List.length_nil]; omega
def baT (s : Sighting) : List UInt8 := Lib.itoa s.id ++ [32] ++ s.town.toList ++ [32] ++ Lib.itoa s.year
def siT (s : Sighting) : ByteArray × Bool := if okSi s = true then (str (baT s ++ tlT s.traits), true) else (str [], false)
theorem e_str : (⟨#[]⟩ : ByteArray) = str [] := rfl
theorem sp_str : (⟨#[32]⟩ : ByteArray) = str [32] := rfl
theorem sh_str : (⟨#[32, 35]⟩ : ByteArray) = str [32, 35] := rfl
theorem town_str (b : ByteArray) : b = str b.toList := by
  rw [Lib.toList_data]; unfold str; rw [Array.toArray_toList]
theorem town_len (b : ByteArray) : b.toList.length = b.size := by
  rw [Lib.toList_data]; exact Array.length_toList
theorem tr_small {x : Sighting} (h : okSi x = true) : ∀ v ∈ x.traits, 1 ≤ v ∧ v ≤ 50 := by
  intro v hv
  obtain ⟨i, hi⟩ := List.getElem?_of_mem hv
  have hr := (okSi_of h).2.2.2.2
  unfold rise at hr
  exact inB_of (upTo_ok hr (List.getElem?_eq_some_iff.1 hi).1 hi)
theorem ba_len {x : Sighting} (h : okSi x = true) : (baT x).length ≤ 30 := by
  obtain ⟨h1, h2, h3, _⟩ := okSi_of h
  have hw := word_len h3
  have s1 := itoaB_size (n := x.id) (by omega) (by omega)
  have s2 := itoaB_size (n := x.year) (by omega) (by omega)
  rw [itoaB_str, str_size] at s1 s2
  unfold baT
  simp only [List.length_append, List.length_cons, List.length_nil, town_len]; omega
theorem len_a (s : Sighting) : (Lib.itoa s.id).length = (itoaB s.id).size := by rw [itoaB_str, str_size]
theorem text_impl (s : Sighting) : GiSightingText.P s.id s.year s.town s.traits = some (siT s) := by
  simp only [GiSightingText.P, isSighting_eq, Option.bind_some, letK, iteK_if, siT]
  cases hc : okSi s with
  | false => simp [e_str]
  | true =>
    obtain ⟨h1, h2, h3, h8, _⟩ := okSi_of hc
    have hw := word_len h3
    have hba := ba_len hc
    have hsm := tr_small hc
    have s1 := itoaB_size (n := s.id) (by omega) (by omega)
    have s2 := itoaB_size (n := s.year) (by omega) (by omega)
    have e1 : (⟨#[32]⟩ : ByteArray).size = 1 := rfl
    simp only [Bool.not_true, Bool.false_eq_true, if_false, if_true]
    simp only [itoa_eq (n := s.id) (by omega) (by omega), itoa_eq (n := s.year) (by omega) (by omega), Option.bind_some]
    rw [guardK_pos (by unfold maxLen; omega), guardK_pos (by simp only [ByteArray.size_append]; unfold maxLen; omega), guardK_pos (by simp only [ByteArray.size_append]; unfold maxLen; omega), guardK_pos (by simp only [ByteArray.size_append]; unfold maxLen; omega)]
    refine cnt_is _ (fun j st => st = str (baT s ++ tlT (s.traits.take j))) ?_ ?_ _ ?_
    · intro j st nx hj h hn
      obtain ⟨v, hv, hvi⟩ := at_lt (l := s.traits) (k := j) hj
      have hv4 := hsm v (List.mem_of_getElem? hv)
      have hb := tlT_take hsm j (by omega)
      have h3 := itoaB_size (n := v) (by omega) (by omega)
      rw [itoaB_str, str_size] at h3
      have hn' := hn (str (baT s ++ tlT (s.traits.take (j + 1)))) rfl
      rw [take_next hv, tlT_snoc] at hn'
      simp only [GiSightingText.l0, letK, hvi, Option.bind_some, appK]
      rw [itoa_eq (by omega) (by omega)]
      simp only [Option.bind_some, itoaB_str, h, sh_str, str_app, str_size]
      rw [guardK_pos (by simp only [List.length_cons, List.length_nil]; unfold maxLen; omega), guardK_pos (by simp only [List.length_append, List.length_cons, List.length_nil]; unfold maxLen; omega)]
      rw [List.append_assoc]
      exact hn'
    · intro st h
      rw [List.take_length] at h
      simp only [GiSightingText.e0, letK, h]
    · simp only [List.take_zero, tlT, List.flatMap_nil, List.append_nil, baT]
      rw [town_str s.town]
      simp only [itoaB_str, sp_str, str_app, str_list]
theorem text_spec (fuel : Nat) (hf : 9 ≤ fuel) (s : Sighting) (hs : sz13 s) : GsSightingText.P fuel s.id s.year s.town s.traits = some (siT s) := by
  simp only [GsSightingText.P, l13One_eq s.id s.year s.town s.traits hs, Option.bind_some, letK, iteK_if, siT]
  cases hc : okSi s with
  | false => simp [e_str]
  | true =>
    obtain ⟨h1, h2, h3, h8, _⟩ := okSi_of hc
    have hw := word_len h3
    have hba := ba_len hc
    have hsm := tr_small hc
    have s1 := itoaB_size (n := s.id) (by omega) (by omega)
    have s2 := itoaB_size (n := s.year) (by omega) (by omega)
    have e1 : (⟨#[32]⟩ : ByteArray).size = 1 := rfl
    simp only [Bool.not_true, Bool.false_eq_true, if_false, if_true]
    simp only [num_eq (n := s.id) (by omega) (by omega), num_eq (n := s.year) (by omega) (by omega), Option.bind_some]
    rw [guardK_pos (by unfold maxLen; omega), guardK_pos (by simp only [ByteArray.size_append]; unfold maxLen; omega), guardK_pos (by simp only [ByteArray.size_append]; unfold maxLen; omega), guardK_pos (by simp only [ByteArray.size_append]; unfold maxLen; omega)]
    refine lp_is (n := s.traits.length) _ (fun j (st : ByteArray × Int) => st = (str (baT s ++ tlT (s.traits.take j)), (j : Int))) ?_ ?_ fuel 0 _ (by omega) (by omega) ?_
    · rintro j ⟨st, i⟩ nx hj h hn
      obtain ⟨hx, h'⟩ := Prod.mk.inj h
      obtain ⟨v, hv, hvi⟩ := at_lt (l := s.traits) (k := j) hj
      have hv4 := hsm v (List.mem_of_getElem? hv)
      have hb := tlT_take hsm j (by omega)
      have h3 := itoaB_size (n := v) (by omega) (by omega)
      rw [itoaB_str, str_size] at h3
      have hn' := hn (str (baT s ++ tlT (s.traits.take (j + 1))), ((j + 1 : Nat) : Int)) rfl
      rw [take_next hv, tlT_snoc] at hn'
      subst h'
      simp only [GsSightingText.l0, unp2, letK, iteK_if, hvi, Option.bind_some, appK]
      rw [if_pos (by simp; omega), num_eq (by omega) (by omega), wrap_in (by omega) (by omega)]
      simp only [Option.bind_some, itoaB_str, hx, sh_str, str_app, str_size]
      rw [guardK_pos (by simp only [List.length_append, List.length_cons, List.length_nil]; unfold maxLen; omega), guardK_pos (by simp only [List.length_append, List.length_cons, List.length_nil]; unfold maxLen; omega)]
      rw [List.append_assoc, List.append_assoc]
      exact hn'
    · rintro ⟨st, i⟩ nx h
      obtain ⟨hx, h'⟩ := Prod.mk.inj h
      rw [List.take_length] at hx
      subst h'
      simp only [GsSightingText.l0, unp2, letK, iteK_if, appK]
      rw [if_neg (by simp)]
      simp only [GsSightingText.e0, unp2, hx]
    · simp only [List.take_zero, tlT, List.flatMap_nil, List.append_nil, baT]
      rw [town_str s.town]
      simp only [itoaB_str, sp_str, str_app, str_list]
      rfl
end Go.Proofs.YtpaakpbbahbhcaaDoor.Q13Text
