/- Texts of gauges and combs: the plain functions of the program and of the reference agree, and the laws answer true. (Q5GText) No condition but those of each theorem. -/
import Derived.Test.YtgfepdfamhnppaaDoorQ2Hund
import Derived.Test.YtgfepdfamhnppaaDoorQText
import Derived.Test.YtgfepdfamhnppaaDoorQNum
import Derived.Test.YtgfepdfamhnppaaDoorPlainFace
import Derived.Test.YtgfepdfamhnppaaDoorGiGaugeText
import Derived.Test.YtgfepdfamhnppaaDoorGsL5Text
namespace Go.Proofs.YtgfepdfamhnppaaDoor.Q5GText
set_option linter.unusedVariables false
set_option linter.unusedSimpArgs false
open Go.RowKit
open Go.Proofs.YtgfepdfamhnppaaDoor.GoP Go.Proofs.YtgfepdfamhnppaaDoor.PlainStamp Go.Proofs.YtgfepdfamhnppaaDoor.QBase Go.Proofs.YtgfepdfamhnppaaDoor.Q2Hund Go.Proofs.YtgfepdfamhnppaaDoor.QText Go.Proofs.YtgfepdfamhnppaaDoor.QNum Go.Proofs.YtgfepdfamhnppaaDoor.PlainFace

def gL (g : Int) : List UInt8 := Lib.itoa (g / 100) ++ (if g % 100 = 0 then [] else 46 :: dig (g / 10 % 10) :: (if g % 10 = 0 then [] else [dig (g % 10)]))
theorem gL_len {g : Int} (h0 : 500 ≤ g) (h : g ≤ 2000) : (gL g).length ≤ 10 := by
  have a := itoa_short (n := g / 100) (by omega) (by omega)
  unfold gL
  split
  · simp; omega
  · split <;> simp <;> omega
theorem trim_cases {g : Int} (h0 : 500 ≤ g) (h : g ≤ 2000) : Lib.trimRightB (Lib.itoa (g / 100) ++ [46, dig (g / 10 % 10), dig (g % 10)]) 48 = if g % 100 = 0 then Lib.itoa (g / 100) ++ [46] else gL g := by
  have e46 : ((46 : UInt8) == 48) = false := by decide
  unfold Lib.trimRightB gL
  simp only [List.reverse_append, List.reverse_cons, List.reverse_nil, List.nil_append, List.cons_append]
  by_cases hb : g % 10 = 0
  · rw [hb, dig_zero]
    by_cases ha : g / 10 % 10 = 0
    · have : g % 100 = 0 := by omega
      rw [ha, dig_zero, if_pos this]
      simp [List.dropWhile, e46]
    · have hn : ¬ g % 100 = 0 := by omega
      have := dig_not (d := g / 10 % 10) (by omega) (by omega)
      rw [if_neg hn, if_neg hn]
      simp [List.dropWhile, this]
  · have hn : ¬ g % 100 = 0 := by omega
    have := dig_not (d := g % 10) (by omega) (by omega)
    rw [if_neg hn, if_neg hn, if_neg hb]
    simp [List.dropWhile, this]
theorem gL_last {g : Int} (h0 : 500 ≤ g) (h : g ≤ 2000) (hn : ¬ g % 100 = 0) : ∃ p y, gL g = p ++ [y] ∧ y ≠ 46 := by
  unfold gL
  rw [if_neg hn]
  by_cases hb : g % 10 = 0
  · rw [if_pos hb]; exact ⟨Lib.itoa (g / 100) ++ [46], dig (g / 10 % 10), by simp, dig_dot (by omega) (by omega)⟩
  · rw [if_neg hb]; exact ⟨Lib.itoa (g / 100) ++ [46, dig (g / 10 % 10)], dig (g % 10), by simp, dig_dot (by omega) (by omega)⟩
theorem has_last (p : List UInt8) (y : UInt8) (hp : p.length ≤ 1000000) : GxInternalStringsliteHasSuffix.P (str (p ++ [y])) ⟨#[46]⟩ = some (y == 46) := by
  have hl : (p ++ [y]).length = p.length + 1 := by simp
  have ht : decide (((1 : Nat) : Int) ≤ ((p.length + 1 : Nat) : Int)) = true := by simp; omega
  have h1 : ([46] : List UInt8).length = 1 := rfl
  simp only [GxInternalStringsliteHasSuffix.P, mk_str, str_size, hl, h1, ht, letK, joinK, appK, iteK_if, if_true]
  rw [wrap_short (by omega) (by omega), guardK_pos (by omega), str_cut, str_list, str_list]
  congr 1
  have e : Int.toNat (((p.length + 1 : Nat) : Int) - ((1 : Nat) : Int)) = p.length := by omega
  rw [e, List.take_of_length_le (by omega), List.drop_left]
  simp
theorem trimSuffix_eq (p : List UInt8) (y : UInt8) (hp : p.length ≤ 1000000) : GxStringsTrimSuffix.P (str (p ++ [y])) ⟨#[46]⟩ = some (str (if y = 46 then p else p ++ [y])) := by
  have hl : (p ++ [y]).length = p.length + 1 := by simp
  have h1 : ([46] : List UInt8).length = 1 := rfl
  simp only [GxStringsTrimSuffix.P, GxInternalStringsliteTrimSuffix.P, has_last p y hp, Option.bind_some, letK, iteK_if]
  by_cases hy : y = 46
  · rw [if_pos (by simpa using hy), if_pos hy]
    simp only [mk_str, str_size, hl, h1]
    rw [wrap_short (by omega) (by omega), guardK_pos (by omega), str_cut, show Int.toNat (((p.length + 1 : Nat) : Int) - ((1 : Nat) : Int)) = p.length by omega]
    simp
  · rw [if_neg (by simpa using hy), if_neg hy]; rfl
theorem trimR_eq (l : List UInt8) (hl : l.length ≤ 1000000) : GxStringsTrimRight.P (str l) ⟨#[48]⟩ = some (str (Lib.trimRightB l 48)) := by
  unfold GxStringsTrimRight.P
  simp only
  rw [if_pos ⟨by decide, by rw [str_size]; omega⟩]
  rfl
theorem gauge_impl (g : Int) : GiGaugeText.P g = some (if inB g 500 2000 = true then (str (gL g), true) else (⟨#[]⟩, false)) := by
  simp only [GiGaugeText.P, GiIsGauge.P, within_eq, Option.bind_some, letK, iteK_if]
  cases hg : inB g 500 2000 with
  | false => simp
  | true =>
    obtain ⟨h0, h⟩ := inB_of hg
    have a := itoa_short (n := g / 100) (by omega) (by omega)
    have a2 := gL_len h0 h
    simp only [Bool.not_true, Bool.false_eq_true, if_false, if_true, hund_eq (g := g) (by omega) (by omega), Option.bind_some]
    rw [trimR_eq _ (by simp; omega), trim_cases h0 h]
    simp only [Option.bind_some]
    by_cases hn : g % 100 = 0
    · rw [if_pos hn, trimSuffix_eq _ _ (by omega)]
      simp [gL, hn]
    · obtain ⟨p, y, e, hy⟩ := gL_last h0 h hn
      rw [if_neg hn, e, trimSuffix_eq _ _ (by rw [e] at a2; simp at a2; omega), if_neg hy]
      rfl
theorem text_spec {g : Int} (h0 : 500 ≤ g) (h : g ≤ 2000) : GsL5Text.P g = some (str (gL g)) := by
  have a := itoa_short (n := g / 100) (by omega) (by omega)
  have d1 : Int.tdiv g 100 = g / 100 := Int.tdiv_eq_ediv_of_nonneg (by omega)
  have d2 : Int.tmod g 100 = g % 100 := Int.tmod_eq_emod_of_nonneg (by omega)
  have d3 : Int.tdiv g 10 = g / 10 := Int.tdiv_eq_ediv_of_nonneg (by omega)
  have d4 : Int.tmod g 10 = g % 10 := Int.tmod_eq_emod_of_nonneg (by omega)
  have d5 : Int.tmod (g / 10) 10 = g / 10 % 10 := Int.tmod_eq_emod_of_nonneg (by omega)
  have e1 := itoa_dig (d := g / 10 % 10) (by omega) (by omega)
  have e2 := itoa_dig (d := g % 10) (by omega) (by omega)
  simp only [GsL5Text.P, GsL5Text.j0, GsL5Text.j1, letK, d1, d2, d3, d4]
  rw [wrap_short (by omega) (by omega), wrap_short (by omega) (by omega), d5, num_eq (by omega) (by omega), num_eq (by omega) (by omega), num_eq (by omega) (by omega)]
  simp only [Option.bind_some, itoaB_str, e1, e2, iteK_if, gL]
  simp only [mk_str, str_app, str_size]
  by_cases hn : g % 100 = 0
  · have : ¬ (0 < g % 10) := by omega
    simp [hn, this]
  · rw [if_pos (show decide (0 < g % 100) = true by simp; omega), guardK_pos (by simp [maxLen]; omega), guardK_pos (by simp [maxLen]; omega), if_neg hn]
    by_cases hb : g % 10 = 0
    · rw [if_neg (by simp; omega), if_pos hb]; simp
    · rw [if_pos (show decide (0 < g % 10) = true by simp; omega), if_neg hb, guardK_pos (by simp [maxLen]; omega)]
      simp
end Go.Proofs.YtgfepdfamhnppaaDoor.Q5GText
