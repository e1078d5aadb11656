/- The texts on which the proof of FnCombs stands, one behind the other (5 of 5). No condition of their own. -/
import Derived.Test.YtpcdaoeijlifmaaDoorFnCombsP4
import Derived.Test.YtpcdaoeijlifmaaDoorFnCombsP3
import Derived.Test.YtpcdaoeijlifmaaDoorFnCombsP1
import Derived.Test.YtpcdaoeijlifmaaDoorFnCombsP2
/- Texts of gauges and combs: the plain functions of the program and of the reference agree, and the laws answer true. (Q5GText) No condition but those of each theorem. -/
namespace Go.Proofs.YtpcdaoeijlifmaaDoor.Q5GText
set_option linter.unusedVariables false
set_option linter.unusedSimpArgs false
open Go.RowKit
open Go.Proofs.YtpcdaoeijlifmaaDoor.GoP Go.Proofs.YtpcdaoeijlifmaaDoor.PlainStamp Go.Proofs.YtpcdaoeijlifmaaDoor.QBase Go.Proofs.YtpcdaoeijlifmaaDoor.Q2Hund Go.Proofs.YtpcdaoeijlifmaaDoor.QText Go.Proofs.YtpcdaoeijlifmaaDoor.QNum Go.Proofs.YtpcdaoeijlifmaaDoor.PlainFace

def gL (g : Int) : List UInt8 := Lib.itoa (g / 100) ++ (if g % 100 = 0 then [] else 46 :: dig (g / 10 % 10) :: (if g % 10 = 0 then [] else [dig (g % 10)]))
theorem gL_len {g : Int} (h0 : 500 ≤ g) (h : g ≤ 2000) : (gL g).length ≤ 10 := by
  have a := itoa_short (n := g / 100) (by omega) (by omega)
  unfold gL
  split
  · simp; omega
  · split <;> simp <;> omega
theorem trim_cases {g : Int} (h0 : 500 ≤ g) (h : g ≤ 2000) : Lib.trimRightB (Lib.itoa (g / 100) ++ [46, dig (g / 10 % 10), dig (g % 10)]) 48 = if g % 100 = 0 then Lib.itoa (g / 100) ++ [46] else gL g := by
  have e46 : ((46 : UInt8) == 48) = false := by decide
  unfold Lib.trimRightB gL
  simp only [List.reverse_append, List.reverse_cons, List.reverse_nil, List.nil_append, List.cons_append]
  by_cases hb : g % 10 = 0
  · rw [hb, dig_zero]
    by_cases ha : g / 10 % 10 = 0
    · have : g % 100 = 0 := by omega
      rw [ha, dig_zero, if_pos this]
      simp [List.dropWhile, e46]
    · have hn : ¬ g % 100 = 0 := by omega
      have := dig_not (d := g / 10 % 10) (by omega) (by omega)
      rw [if_neg hn, if_neg hn]
      simp [List.dropWhile, this]
  · have hn : ¬ g % 100 = 0 := by omega
    have := dig_not (d := g % 10) (by omega) (by omega)
    rw [if_neg hn, if_neg hn, if_neg hb]
    simp [List.dropWhile, this]
theorem gL_last {g : Int} (h0 : 500 ≤ g) (h : g ≤ 2000) (hn : ¬ g % 100 = 0) : ∃ p y, gL g = p ++ [y] ∧ y ≠ 46 := by
  unfold gL
  rw [if_neg hn]
  by_cases hb : g % 10 = 0
  · rw [if_pos hb]; exact ⟨Lib.itoa (g / 100) ++ [46], dig (g / 10 % 10), by simp, dig_dot (by omega) (by omega)⟩
  · rw [if_neg hb]; exact ⟨Lib.itoa (g / 100) ++ [46, dig (g / 10 % 10)], dig (g % 10), by simp, dig_dot (by omega) (by omega)⟩
theorem has_last (p : List UInt8) (y : UInt8) (hp : p.length ≤ 1000000) : GxInternalStringsliteHasSuffix.P (str (p ++ [y])) ⟨#[46]⟩ = some (y == 46) := by
  have hl : (p ++ [y]).length = p.length + 1 := by simp
  have ht : decide (((1 : Nat) : Int) ≤ ((p.length + 1 : Nat) : Int)) = true := by simp; omega
  have h1 : ([46] : List UInt8).length = 1 := rfl
  simp only [GxInternalStringsliteHasSuffix.P, mk_str, str_size, hl, h1, ht, letK, joinK, appK, iteK_if, if_true]
  rw [wrap_short (by omega) (by omega), guardK_pos (by omega), str_cut, str_list, str_list]
  congr 1
  have e : Int.toNat (((p.length + 1 : Nat) : Int) - ((1 : Nat) : Int)) = p.length := by omega
  rw [e, List.take_of_length_le (by omega), List.drop_left]
  simp
theorem trimSuffix_eq (p : List UInt8) (y : UInt8) (hp : p.length ≤ 1000000) : GxStringsTrimSuffix.P (str (p ++ [y])) ⟨#[46]⟩ = some (str (if y = 46 then p else p ++ [y])) := by
  have hl : (p ++ [y]).length = p.length + 1 := by simp
  have h1 : ([46] : List UInt8).length = 1 := rfl
  simp only [GxStringsTrimSuffix.P, GxInternalStringsliteTrimSuffix.P, has_last p y hp, Option.bind_some, letK, iteK_if]
  by_cases hy : y = 46
  · rw [if_pos (by simpa using hy), if_pos hy]
    simp only [mk_str, str_size, hl, h1]
    rw [wrap_short (by omega) (by omega), guardK_pos (by omega), str_cut, show Int.toNat (((p.length + 1 : Nat) : Int) - ((1 : Nat) : Int)) = p.length by omega]
    simp
  · rw [if_neg (by simpa using hy), if_neg hy]; rfl
theorem trimR_eq (l : List UInt8) (hl : l.length ≤ 1000000) : GxStringsTrimRight.P (str l) ⟨#[48]⟩ = some (str (Lib.trimRightB l 48)) := by
  unfold GxStringsTrimRight.P
  simp only
  rw [if_pos ⟨by decide, by rw [str_size]; omega⟩]
  rfl
theorem gauge_impl (g : Int) : GiGaugeText.P g = some (if inB g 500 2000 = true then (str (gL g), true) else (⟨#[]⟩, false)) := by
  simp only [GiGaugeText.P, GiIsGauge.P, within_eq, Option.bind_some, letK, iteK_if]
  cases hg : inB g 500 2000 with
  | false => simp
  | true =>
    obtain ⟨h0, h⟩ := inB_of hg
    have a := itoa_short (n := g / 100) (by omega) (by omega)
    have a2 := gL_len h0 h
    simp only [Bool.not_true, Bool.false_eq_true, if_false, if_true, hund_eq (g := g) (by omega) (by omega), Option.bind_some]
    rw [trimR_eq _ (by simp; omega), trim_cases h0 h]
    simp only [Option.bind_some]
    by_cases hn : g % 100 = 0
    · rw [if_pos hn, trimSuffix_eq _ _ (by omega)]
      simp [gL, hn]
    · obtain ⟨p, y, e, hy⟩ := gL_last h0 h hn
      rw [if_neg hn, e, trimSuffix_eq _ _ (by rw [e] at a2; simp at a2; omega), if_neg hy]
      rfl
theorem text_spec {g : Int} (h0 : 500 ≤ g) (h : g ≤ 2000) : GsL5Text.P g = some (str (gL g)) := by
  have a := itoa_short (n := g / 100) (by omega) (by omega)
  have d1 : Int.tdiv g 100 = g / 100 := Int.tdiv_eq_ediv_of_nonneg (by omega)
  have d2 : Int.tmod g 100 = g % 100 := Int.tmod_eq_emod_of_nonneg (by omega)
  have d3 : Int.tdiv g 10 = g / 10 := Int.tdiv_eq_ediv_of_nonneg (by omega)
  have d4 : Int.tmod g 10 = g % 10 := Int.tmod_eq_emod_of_nonneg (by omega)
  have d5 : Int.tmod (g / 10) 10 = g / 10 % 10 := Int.tmod_eq_emod_of_nonneg (by omega)
  have e1 := itoa_dig (d := g / 10 % 10) (by omega) (by omega)
  have e2 := itoa_dig (d := g % 10) (by omega) (by omega)
  simp only [GsL5Text.P, GsL5Text.j0, GsL5Text.j1, letK, d1, d2, d3, d4]
  rw [wrap_short (by omega) (by omega), wrap_short (by omega) (by omega), d5, num_eq (by omega) (by omega), num_eq (by omega) (by omega), num_eq (by omega) (by omega)]
  simp only [Option.bind_some, itoaB_str, e1, e2, iteK_if, gL]
  simp only [mk_str, str_app, str_size]
  by_cases hn : g % 100 = 0
  · have : ¬ (0 < g % 10) := by omega
    simp [hn, this]
  · rw [if_pos (show decide (0 < g % 100) = true by simp; omega), guardK_pos (by simp [maxLen]; omega), guardK_pos (by simp [maxLen]; omega), if_neg hn]
    by_cases hb : g % 10 = 0
    · rw [if_neg (by simp; omega), if_pos hb]; simp
    · rw [if_pos (show decide (0 < g % 10) = true by simp; omega), if_neg hb, guardK_pos (by simp [maxLen]; omega)]
      simp
end Go.Proofs.YtpcdaoeijlifmaaDoor.Q5GText

/- What the law FnCombs tells of combs: each comb is in one group of the same gauges. (Q5CText) No condition but those of each theorem. -/
namespace Go.Proofs.YtpcdaoeijlifmaaDoor.Q5CText
set_option linter.unusedVariables false
set_option linter.unusedSimpArgs false
open Go.RowKit
open Go.Proofs.YtpcdaoeijlifmaaDoor.GoP Go.Proofs.YtpcdaoeijlifmaaDoor.PlainStamp Go.Proofs.YtpcdaoeijlifmaaDoor.QBase Go.Proofs.YtpcdaoeijlifmaaDoor.Q5GText Go.Proofs.YtpcdaoeijlifmaaDoor.QText Go.Proofs.YtpcdaoeijlifmaaDoor.QNum Go.Proofs.YtpcdaoeijlifmaaDoor.PlainFace Go.Proofs.YtpcdaoeijlifmaaDoor.PComb

theorem gauge_spec (g : Int) : GsGaugeText.P g = some (if inB g 500 2000 = true then (str (gL g), true) else (⟨#[]⟩, false)) := by
  simp only [GsGaugeText.P, GsL5Gauge.P, l1In_eq, Option.bind_some, letK, iteK_if]
  cases hg : inB g 500 2000 with
  | false => simp
  | true => obtain ⟨h0, h⟩ := inB_of hg; simp [text_spec h0 h]
def okC (x : Comb) : Bool := inB x.id 1 99 && inB x.wide 500 2000 && inB x.high 500 2000
theorem isComb_eq (p : Comb) : GiIsComb.P p = some (okC p) := by
  obtain ⟨a, b, c, d⟩ := p
  simp only [GiIsComb.P, GiIsGauge.P, unComb, within_eq, Option.bind_some, letK, joinK, appK, iteK_if, okC]
  cases inB a 1 99 <;> cases inB b 500 2000 <;> cases inB c 500 2000 <;> simp
theorem l5One_eq (p : Comb) : GsL5One.P p = some (okC p) := by
  obtain ⟨a, b, c, d⟩ := p
  simp only [GsL5One.P, GsL5Gauge.P, unComb, l1In_eq, Option.bind_some, letK, joinK, appK, iteK_if, okC]
  cases inB a 1 99 <;> cases inB b 500 2000 <;> cases inB c 500 2000 <;> simp
def cL (x : Comb) : List UInt8 := 99 :: Lib.itoa x.id ++ 32 :: gL x.wide ++ (if x.high = x.wide then [] else [32, 120, 32] ++ gL x.high) ++ (if x.line = true then [32, 108, 105, 110, 101] else [])
def cRes (x : Comb) : ByteArray × Bool := if okC x = true then (str (cL x), true) else (⟨#[]⟩, false)
theorem okC_in {x : Comb} (h : okC x = true) : (1 ≤ x.id ∧ x.id ≤ 99) ∧ (500 ≤ x.wide ∧ x.wide ≤ 2000) ∧ (500 ≤ x.high ∧ x.high ≤ 2000) := by
  unfold okC at h; simp only [Bool.and_eq_true] at h
  exact ⟨inB_of h.1.1, inB_of h.1.2, inB_of h.2⟩
theorem comb_impl (x : Comb) : GiCombText.P x = some (cRes x) := by
  have hok := isComb_eq x
  unfold cRes
  cases h : okC x with
  | false => obtain ⟨a, b, c, d⟩ := x; simp [GiCombText.P, unComb, hok, h, letK, iteK_if]
  | true =>
    obtain ⟨h1, h2, h3⟩ := okC_in h
    have a1 := itoa_short (n := x.id) (by omega) (by omega)
    have a2 := gL_len h2.1 h2.2
    have a3 := gL_len h3.1 h3.2
    obtain ⟨a, b, c, d⟩ := x
    dsimp only at h1 h2 h3 a1 a2 a3
    have ew : inB b 500 2000 = true := inB_yes h2.1 h2.2
    have eh : inB c 500 2000 = true := inB_yes h3.1 h3.2
    simp only [GiCombText.P, GiCombText.j0, GiCombText.j1, unComb, hok, h, gauge_impl, ew, eh, if_true, bind2, Option.bind_some, letK, iteK_if, Bool.not_true, Bool.false_eq_true, if_false]
    rw [itoa_eq (by omega) (by omega)]
    simp only [Option.bind_some, itoaB_str]
    simp only [mk_str, str_app, str_size]
    rw [guardK_pos (by simp [maxLen]; omega), guardK_pos (by simp [maxLen]; omega), guardK_pos (by simp [maxLen]; omega), guardK_pos (by simp [maxLen]; omega), guardK_pos (by simp [maxLen]; omega), guardK_pos (by simp [maxLen]; omega), guardK_pos (by simp [maxLen]; omega)]
    by_cases he : c = b <;> cases d <;> simp [he, cL]
theorem comb_spec (x : Comb) : GsCombText.P x = some (cRes x) := by
  have hok := l5One_eq x
  unfold cRes
  cases h : okC x with
  | false => obtain ⟨a, b, c, d⟩ := x; simp [GsCombText.P, unComb, hok, h, letK, iteK_if]
  | true =>
    obtain ⟨h1, h2, h3⟩ := okC_in h
    have a1 := itoa_short (n := x.id) (by omega) (by omega)
    have a2 := gL_len h2.1 h2.2
    have a3 := gL_len h3.1 h3.2
    obtain ⟨a, b, c, d⟩ := x
    dsimp only at h1 h2 h3 a1 a2 a3
    simp only [GsCombText.P, GsCombText.j0, GsCombText.j1, unComb, hok, h, text_spec h2.1 h2.2, text_spec h3.1 h3.2, Option.bind_some, letK, iteK_if, Bool.not_true, Bool.false_eq_true, if_false]
    rw [num_eq (by omega) (by omega)]
    simp only [Option.bind_some, itoaB_str]
    simp only [mk_str, str_app, str_size]
    rw [guardK_pos (by simp [maxLen]; omega), guardK_pos (by simp [maxLen]; omega), guardK_pos (by simp [maxLen]; omega), guardK_pos (by simp [maxLen]; omega), guardK_pos (by simp [maxLen]; omega), guardK_pos (by simp [maxLen]; omega), guardK_pos (by simp [maxLen]; omega)]
    by_cases he : c = b <;> cases d <;> simp [he, cL]
end Go.Proofs.YtpcdaoeijlifmaaDoor.Q5CText

/- Chapter 5: combs, holes, gauges: the plain functions of the program and of the reference agree, and the laws answer true. (Q5Gauge) No condition but those of each theorem. -/
namespace Go.Proofs.YtpcdaoeijlifmaaDoor.Q5Gauge
set_option linter.unusedVariables false
set_option linter.unusedSimpArgs false
open Go.RowKit
open Go.Proofs.YtpcdaoeijlifmaaDoor.GoP Go.Proofs.YtpcdaoeijlifmaaDoor.PlainStamp Go.Proofs.YtpcdaoeijlifmaaDoor.QBase Go.Proofs.YtpcdaoeijlifmaaDoor.QLoop

theorem isGauge_eq (g : Int) : GiIsGauge.P g = some (inB g 500 2000) := by simp only [GiIsGauge.P, within_eq, Option.bind_some]
theorem l5Gauge_eq (g : Int) : GsL5Gauge.P g = some (inB g 500 2000) := by simp only [GsL5Gauge.P, l1In_eq, Option.bind_some]
end Go.Proofs.YtpcdaoeijlifmaaDoor.Q5Gauge

/- Chapter 5: combs, holes, gauges: the plain functions of the program and of the reference agree, and the laws answer true. (Q5Comb) No condition but those of each theorem. -/
namespace Go.Proofs.YtpcdaoeijlifmaaDoor.Q5Comb
set_option linter.unusedVariables false
set_option linter.unusedSimpArgs false
open Go.RowKit
open Go.Proofs.YtpcdaoeijlifmaaDoor.GoP Go.Proofs.YtpcdaoeijlifmaaDoor.PlainStamp Go.Proofs.YtpcdaoeijlifmaaDoor.QBase Go.Proofs.YtpcdaoeijlifmaaDoor.Q5Gauge Go.Proofs.YtpcdaoeijlifmaaDoor.QLoop Go.Proofs.YtpcdaoeijlifmaaDoor.PComb

def okCo (x : Comb) : Bool := inB x.id 1 99 && inB x.wide 500 2000 && inB x.high 500 2000
theorem isComb_eq (p : Comb) : GiIsComb.P p = some (okCo p) := by
  obtain ⟨a, b, c, d⟩ := p
  simp only [GiIsComb.P, unComb, within_eq, isGauge_eq, Option.bind_some, letK, joinK, appK, iteK_if, okCo]
  cases inB a 1 99 <;> cases inB b 500 2000 <;> cases inB c 500 2000 <;> simp
theorem l5One_eq (p : Comb) : GsL5One.P p = some (okCo p) := by
  obtain ⟨a, b, c, d⟩ := p
  simp only [GsL5One.P, unComb, l1In_eq, l5Gauge_eq, Option.bind_some, letK, joinK, appK, iteK_if, okCo]
  cases inB a 1 99 <;> cases inB b 500 2000 <;> cases inB c 500 2000 <;> simp
def okCos (l : List Comb) : Bool := upL 10 okCo Comb.id l
theorem areCombs_eq (l : List Comb) : GiAreCombs.P l = some (okCos l) := by
  simp only [GiAreCombs.P, GiAreByIdCombiIsCombiIdOfComb.P, letK, iteK_if]
  by_cases hl : l.length ≤ 10
  · rw [if_neg (by simp; omega), up_loop (ok := okCo) (id := Comb.id) (no := false)]
    · unfold okCos upL; cases upTo okCo Comb.id l l.length <;> simp [hl, GiAreByIdCombiIsCombiIdOfComb.e0]
    · intro k nx s hs
      have hi : idx l (k : Int) = some s := by rw [idx_nat, hs]
      have hk : k < l.length := (List.getElem?_eq_some_iff.1 hs).1
      simp only [GiAreByIdCombiIsCombiIdOfComb.l0, hi, Option.bind_some, unComb, isComb_eq, GiIdOfComb.P, letK, joinK, appK, iteK_if]
      refine ⟨fun h => by simp [h], fun h => ⟨fun h0 => by subst h0; simp [h], fun h0 r hr => ?_⟩⟩
      rw [idx_pred h0 (by omega) hr]
      have hk0 : (0 : Int) < (k : Int) := by omega
      have hk1 : ¬ k = 0 := by omega
      exact ⟨fun hlt => by (have hc : ¬ s.id ≤ r.id := by omega); simp [h, hk0, hk1, hc], fun hge => by simp [h, hk0, hk1, hge]⟩
  · rw [if_pos (by simp; omega)]; unfold okCos upL; simp [hl]
theorem l5Good_eq (l : List Comb) (hl : l.length ≤ 9223372036854775807) : GsL5Good.P l = some (okCos l) := by
  simp only [GsL5Good.P]
  rw [up_loop (ok := okCo) (id := Comb.id) (no := false)]
  · unfold okCos upL; cases upTo okCo Comb.id l l.length <;> simp [GsL5Good.e0, letK]; omega
  · intro k nx s hs
    have hi : idx l (k : Int) = some s := by rw [idx_nat, hs]
    have hk : k < l.length := (List.getElem?_eq_some_iff.1 hs).1
    simp only [GsL5Good.l0, hi, Option.bind_some, unComb, l5One_eq, letK, joinK, appK, iteK_if]
    refine ⟨fun h => by simp [h], fun h => ⟨fun h0 => by subst h0; simp [h], fun h0 r hr => ?_⟩⟩
    rw [idx_pred h0 (by omega) hr]
    have hk0 : (0 : Int) < (k : Int) := by omega
    have hk1 : ¬ k = 0 := by omega
    exact ⟨fun hlt => by (have hc : ¬ s.id ≤ r.id := by omega); simp [h, hk0, hk1, hc], fun hge => by simp [h, hk0, hk1, hge]⟩
end Go.Proofs.YtpcdaoeijlifmaaDoor.Q5Comb

/- Combs of the same gauges: the plain functions of the program and of the reference agree, and the law answers true. (Q5Same) No condition but those of each theorem. -/
namespace Go.Proofs.YtpcdaoeijlifmaaDoor.Q5Same
set_option linter.unusedVariables false
set_option linter.unusedSimpArgs false
open Go.RowKit
open Go.Proofs.YtpcdaoeijlifmaaDoor.GoP Go.Proofs.YtpcdaoeijlifmaaDoor.PlainStamp Go.Proofs.YtpcdaoeijlifmaaDoor.QBase Go.Proofs.YtpcdaoeijlifmaaDoor.Q5Comb Go.Proofs.YtpcdaoeijlifmaaDoor.QLoop Go.Proofs.YtpcdaoeijlifmaaDoor.PComb

def sm (x y : Comb) : Bool := y.wide == x.wide && y.high == x.high
def grp (l : List Comb) (x : Comb) : List Int := (l.filter (sm x)).map Comb.id
def gs (l : List Comb) : Nat → List (List Int)
  | 0 => []
  | i + 1 => match l[i]? with
    | none => gs l i
    | some x => if (l.take i).any (sm x) = true then gs l i else gs l i ++ [grp l x]
theorem gs_succ {l : List Comb} {i : Nat} {x : Comb} (h : l[i]? = some x) : gs l (i + 1) = if (l.take i).any (sm x) = true then gs l i else gs l i ++ [grp l x] := by
  show (match l[i]? with | none => gs l i | some x => if (l.take i).any (sm x) = true then gs l i else gs l i ++ [grp l x]) = _
  rw [h]
theorem gs_len (l : List Comb) : ∀ i, (gs l i).length ≤ i := by
  intro i
  induction i with
  | zero => simp [gs]
  | succ i ih =>
    cases h : l[i]? with
    | none => show (match l[i]? with | none => gs l i | some x => if (l.take i).any (sm x) = true then gs l i else gs l i ++ [grp l x]).length ≤ _; rw [h]; dsimp only; omega
    | some x =>
      rw [gs_succ h]
      split
      · omega
      · rw [List.length_append]; show (gs l i).length + 1 ≤ _; omega
theorem grp_len (l : List Comb) (x : Comb) : (grp l x).length ≤ l.length := by
  unfold grp; rw [List.length_map]; exact List.length_filter_le _ _
theorem gs_rows (l : List Comb) : ∀ i, ∀ row ∈ gs l i, row.length ≤ l.length := by
  intro i
  induction i with
  | zero => intro row h; simp [gs] at h
  | succ i ih =>
    intro row hr
    cases h : l[i]? with
    | none =>
      have e : gs l (i + 1) = gs l i := by
        show (match l[i]? with | none => gs l i | some x => if (l.take i).any (sm x) = true then gs l i else gs l i ++ [grp l x]) = _
        rw [h]
      rw [e] at hr
      exact ih row hr
    | some x =>
      rw [gs_succ h] at hr
      split at hr
      · exact ih row hr
      · rcases List.mem_append.1 hr with hr | hr
        · exact ih row hr
        · simp at hr; subst hr; exact grp_len l x
theorem same_eq (y x : Comb) : GiSameGauges1.P y x.id x.wide x.high x.line = some (sm x y) := by
  obtain ⟨a, b, c, d⟩ := y
  simp only [GiSameGauges1.P, unComb, letK, joinK, appK, iteK_if, sm]
  cases b == x.wide <;> simp
theorem any_eq (l : List Comb) (x : Comb) : GxSlicesContainsFuncLoopExampleG01062ImplCombLoopExampleG01062ImplCombiSameGauges1.P l x.id x.wide x.high x.line = some (l.any (sm x)) := by
  simp only [GxSlicesContainsFuncLoopExampleG01062ImplCombLoopExampleG01062ImplCombiSameGauges1.P, letK]
  obtain ⟨c, hc, hi⟩ : ∃ c, GxSlicesIndexFuncLoopExampleG01062ImplCombLoopExampleG01062ImplCombiSameGauges1.P l x.id x.wide x.high x.line = some c ∧ (0 ≤ c ↔ l.any (sm x) = true) := by
    simp only [GxSlicesIndexFuncLoopExampleG01062ImplCombLoopExampleG01062ImplCombiSameGauges1.P]
    refine cnt_ex (n := l.length) (Q := fun c => 0 ≤ c ↔ l.any (sm x) = true) (fun j _ => ∀ i y, i < j → l[i]? = some y → sm x y = false) ?_ ?_ l.length 0 () (by omega) (fun i y hi _ => by omega)
    · intro j _ nx hj hI hn
      obtain ⟨y, hy, hyi⟩ := at_lt (l := l) (k := j) hj
      have hs := same_eq y x
      obtain ⟨a, b, c, d⟩ := y
      simp only [GxSlicesIndexFuncLoopExampleG01062ImplCombLoopExampleG01062ImplCombiSameGauges1.l0, hyi, Option.bind_some, unComb, hs, appK, iteK_if]
      cases hf : sm x ⟨a, b, c, d⟩ with
      | true => exact ⟨_, by rw [if_pos rfl], ⟨fun _ => List.any_eq_true.2 ⟨_, List.mem_of_getElem? hy, hf⟩, fun _ => by omega⟩⟩
      | false =>
        rw [if_neg (by simp)]
        refine hn () (fun i y' hi hy' => ?_)
        by_cases he : i = j
        · subst he; obtain rfl := Option.some.inj (hy.symm.trans hy'); exact hf
        · exact hI i y' (by omega) hy'
    · intro _ hI
      refine ⟨_, rfl, ⟨fun h => by omega, fun h => ?_⟩⟩
      exfalso
      obtain ⟨y, hy, hf⟩ := List.any_eq_true.1 h
      obtain ⟨i, hi⟩ := List.getElem?_of_mem hy
      rw [hI i y (List.getElem?_eq_some_iff.1 hi).1 hi] at hf
      simp at hf
  rw [hc]
  simp only [Option.bind_some]
  cases hf : l.any (sm x) with
  | true => rw [decide_eq_true (hi.2 hf)]
  | false => rw [decide_eq_false (fun h => by rw [hi.1 h] at hf; exact absurd hf (by simp))]
theorem filt_succ {l : List Comb} {k : Nat} {y : Comb} (h : l[k]? = some y) (x : Comb) : ((l.take (k + 1)).filter (sm x)).map Comb.id = if sm x y = true then ((l.take k).filter (sm x)).map Comb.id ++ [y.id] else ((l.take k).filter (sm x)).map Comb.id := by
  rw [take_next h, List.filter_append, List.map_append]
  cases hs : sm x y <;> simp [List.filter, hs]
theorem ids_eq (l : List Comb) (x : Comb) (hl : l.length ≤ 1000) : GiIdsWhereCombiIdOfCombiSameGauges1.P l x.id x.wide x.high x.line = some (grp l x) := by
  simp only [GiIdsWhereCombiIdOfCombiSameGauges1.P]
  refine cnt_is _ (fun k s => s = ((l.take k).filter (sm x)).map Comb.id ∧ s.length ≤ k) ?_ ?_ [] ⟨by simp, by simp⟩
  · rintro k s nx hk ⟨h1, h2⟩ hn
    obtain ⟨y, hy, hyi⟩ := at_lt (l := l) (k := k) hk
    have hf := filt_succ hy x
    have hs := same_eq y x
    obtain ⟨a, b, c, d⟩ := y
    simp only [GiIdsWhereCombiIdOfCombiSameGauges1.l0, hyi, Option.bind_some, unComb, hs, GiIdOfComb.P, letK, appK, iteK_if]
    cases hsm : sm x ⟨a, b, c, d⟩ with
    | true =>
      rw [hsm, if_pos rfl] at hf
      rw [if_pos rfl, guardK_pos (by omega)]
      exact hn _ ⟨by rw [hf, h1], by rw [List.length_append]; show s.length + 1 ≤ _; omega⟩
    | false =>
      rw [hsm, if_neg (by simp)] at hf
      rw [if_neg (by simp)]
      exact hn _ ⟨by rw [hf, h1], by omega⟩
  · rintro s ⟨h1, h2⟩
    simp only [GiIdsWhereCombiIdOfCombiSameGauges1.e0, letK]
    rw [h1, List.take_length]; rfl
theorem same_impl (l : List Comb) : GiSameGauges.P l = some (if okCos l = true then (gs l l.length, true) else ([], false)) := by
  simp only [GiSameGauges.P, areCombs_eq, Option.bind_some, letK, iteK_if]
  cases h : okCos l with
  | false => simp
  | true =>
    have hl : l.length ≤ 10 := upL_len h
    rw [if_neg (by simp), if_pos rfl]
    refine cnt_is _ (fun i o => o = gs l i ∧ o.length ≤ i) ?_ ?_ [] ⟨rfl, by simp⟩
    · rintro i o nx hi ⟨h1, h2⟩ hn
      obtain ⟨x, hx, hxi⟩ := at_lt (l := l) (k := i) hi
      have hg := gs_succ hx
      have ha := any_eq (l.take i) x
      have hd := ids_eq l x (by omega)
      obtain ⟨a, b, c, d⟩ := x
      dsimp only at ha hd
      simp only [GiSameGauges.l0, letK, hxi, Option.bind_some, unComb, iteK_if]
      rw [guardK_pos (by omega), Int.toNat_natCast, ha]
      simp only [Option.bind_some, hd]
      cases hb : (l.take i).any (sm ⟨a, b, c, d⟩) with
      | true =>
        rw [hb, if_pos rfl] at hg
        rw [if_neg (by simp)]
        exact hn _ ⟨by rw [hg, h1], by omega⟩
      | false =>
        rw [hb, if_neg (by simp)] at hg
        rw [if_pos (by simp), guardK_pos (by omega)]
        exact hn _ ⟨by rw [hg, h1], by rw [List.length_append]; show o.length + 1 ≤ _; omega⟩
    · rintro o ⟨h1, h2⟩
      simp only [GiSameGauges.e0, letK, h1]
theorem same_spec (l : List Comb) (hl0 : l.length ≤ 9223372036854775807) : GsSameGauges.P l = some (if okCos l = true then (gs l l.length, true) else ([], false)) := by
  simp only [GsSameGauges.P, l5Good_eq l hl0, Option.bind_some, letK, iteK_if]
  cases h : okCos l with
  | false => simp
  | true =>
    have hl : l.length ≤ 10 := upL_len h
    rw [if_neg (by simp), if_pos rfl]
    refine cnt_is _ (fun i o => o = gs l i ∧ o.length ≤ i) ?_ ?_ [] ⟨rfl, by simp⟩
    · rintro i o nx hi ⟨h1, h2⟩ hn
      obtain ⟨x, hx, hxi⟩ := at_lt (l := l) (k := i) hi
      have hg := gs_succ hx
      simp only [GsSameGauges.l0, letK]
      refine cnt_is _ (fun k (s : List Int × Bool) => s.1 = ((l.take k).filter (sm x)).map Comb.id ∧ s.1.length ≤ k ∧ s.2 = !((l.take (min k i)).any (sm x))) ?_ ?_ ([], true) ⟨by simp, by simp, by simp⟩
      · rintro k ⟨ids, fst⟩ nx2 hk ⟨g1, g2, g3⟩ hn2
        dsimp only at g1 g2 g3
        obtain ⟨y, hy, hyi⟩ := at_lt (l := l) (k := k) hk
        have hf := filt_succ hy x
        have hm : (l.take (min (k + 1) i)).any (sm x) = ((l.take (min k i)).any (sm x) || (decide (k < i) && sm x y)) := by
          by_cases hki : k < i
          · rw [Nat.min_eq_left (by omega), Nat.min_eq_left (by omega), take_next hy]
            simp [hki]
          · rw [Nat.min_eq_right (by omega), Nat.min_eq_right (by omega)]
            simp [hki]
        obtain ⟨a, b, c, d⟩ := x
        obtain ⟨a', b', c', d'⟩ := y
        have hsm : sm ⟨a, b, c, d⟩ ⟨a', b', c', d'⟩ = (b' == b && c' == c) := rfl
        simp only [GsSameGauges.l1, unp2, hyi, hxi, Option.bind_some, unComb, letK, joinK, appK, iteK_if]
        have hkk : decide ((i : Int) ≤ (k : Int)) = !decide (k < i) := by
          by_cases hki : k < i
          · first | (simp [hki]; done) | (simp [hki]; omega)
          · first | (simp [hki]; done) | (simp [hki]; omega)
        rw [hkk]
        cases hb : b' == b with
        | false =>
          rw [hsm, hb] at hf hm
          simp only [Bool.false_and, Bool.and_false, Bool.or_false, Bool.false_eq_true, if_false] at hf hm ⊢
          exact hn2 _ ⟨by rw [hf]; exact g1, by dsimp only; omega, by dsimp only; rw [hm]; exact g3⟩
        | true =>
          cases hc : c' == c with
          | false =>
            rw [hsm, hb, hc] at hf hm
            simp only [Bool.true_and, Bool.and_false, Bool.or_false, Bool.false_eq_true, if_false, if_true] at hf hm ⊢
            exact hn2 _ ⟨by rw [hf]; exact g1, by dsimp only; omega, by dsimp only; rw [hm]; exact g3⟩
          | true =>
            rw [hsm, hb, hc] at hf hm
            simp only [Bool.true_and, Bool.and_true, if_true] at hf hm ⊢
            rw [guardK_pos (by omega)]
            have fin := hn2 (ids ++ [a'], !((l.take (min (k + 1) i)).any (sm ⟨a, b, c, d⟩))) ⟨by rw [hf, g1], by dsimp only; rw [List.length_append]; show ids.length + 1 ≤ _; omega, rfl⟩
            rw [hm, Bool.not_or, ← g3] at fin
            cases fst with
            | true => simpa using fin
            | false => simpa using fin
      · rintro ⟨ids, fst⟩ ⟨g1, g2, g3⟩
        dsimp only at g1 g2 g3
        rw [Nat.min_eq_right (by omega)] at g3
        rw [List.take_length] at g1
        simp only [GsSameGauges.e1, unp2, letK, appK, iteK_if]
        cases hb : (l.take i).any (sm x) with
        | true =>
          rw [hb, if_pos rfl] at hg
          rw [hb] at g3
          rw [if_neg (by rw [g3]; simp)]
          exact hn _ ⟨by rw [hg, h1], by omega⟩
        | false =>
          rw [hb, if_neg (by simp)] at hg
          rw [hb] at g3
          rw [if_pos (by rw [g3]; rfl), guardK_pos (by omega)]
          exact hn _ ⟨by rw [hg, h1, g1]; rfl, by rw [List.length_append]; show o.length + 1 ≤ _; omega⟩
    · rintro o ⟨h1, h2⟩
      simp only [GsSameGauges.e0, letK, h1]
end Go.Proofs.YtpcdaoeijlifmaaDoor.Q5Same

/- What the law FnCombs tells of combs: each comb is in one group of the same gauges. (Q5Sum) No condition but those of each theorem. -/
namespace Go.Proofs.YtpcdaoeijlifmaaDoor.Q5Sum
set_option linter.unusedVariables false
set_option linter.unusedSimpArgs false
open Go.RowKit
open Go.Proofs.YtpcdaoeijlifmaaDoor.GoP Go.Proofs.YtpcdaoeijlifmaaDoor.PlainStamp Go.Proofs.YtpcdaoeijlifmaaDoor.QBase Go.Proofs.YtpcdaoeijlifmaaDoor.Q5Same Go.Proofs.YtpcdaoeijlifmaaDoor.QLoop Go.Proofs.YtpcdaoeijlifmaaDoor.PComb

theorem sm_self (x : Comb) : sm x x = true := by simp [sm]
theorem sm_symm {x y : Comb} (h : sm x y = true) : sm y x = true := by
  simp only [sm, Bool.and_eq_true, beq_iff_eq] at h ⊢
  exact ⟨h.1.symm, h.2.symm⟩
theorem sm_trans {x y z : Comb} (h : sm x y = true) (h2 : sm y z = true) : sm x z = true := by
  simp only [sm, Bool.and_eq_true, beq_iff_eq] at h h2 ⊢
  exact ⟨h2.1.trans h.1, h2.2.trans h.2⟩
theorem filter_or {α : Type} {p q : α → Bool} : ∀ {l : List α}, (∀ y ∈ l, p y = true → q y = false) → (l.filter fun y => p y || q y).length = (l.filter p).length + (l.filter q).length := by
  intro l
  induction l with
  | nil => intro _; rfl
  | cons a l ih =>
    intro h
    have h1 := ih (fun y hy => h y (List.mem_cons_of_mem _ hy))
    have h2 := h a (by simp)
    cases hp : p a with
    | true =>
      have hq := h2 hp
      simp only [List.filter_cons, hp, hq, Bool.true_or, if_true, Bool.false_eq_true, if_false, List.length_cons]
      omega
    | false =>
      cases hq : q a with
      | true => simp only [List.filter_cons, hp, hq, Bool.false_or, if_true, Bool.false_eq_true, if_false, List.length_cons]; omega
      | false => simp only [List.filter_cons, hp, hq, Bool.or_self, Bool.false_eq_true, if_false]; exact h1
def seen (l : List Comb) (m : Nat) (y : Comb) : Bool := (l.take m).any fun x => sm x y
theorem seen_succ {l : List Comb} {m : Nat} {x : Comb} (h : l[m]? = some x) (y : Comb) : seen l (m + 1) y = (seen l m y || sm x y) := by
  unfold seen
  rw [take_next h, List.any_append]
  simp
theorem sum_to (l : List Comb) : ∀ m, m ≤ l.length → ((gs l m).map List.length).sum = (l.filter (seen l m)).length := by
  intro m
  induction m with
  | zero =>
    intro _
    have : seen l 0 = fun _ => false := by funext y; simp [seen]
    rw [this]
    have e : l.filter (fun _ : Comb => false) = [] := List.filter_eq_nil_iff.2 (by simp)
    rw [e]; simp [gs]
  | succ m ih =>
    intro hm
    obtain ⟨x, hx, _⟩ := at_lt (l := l) (k := m) (by omega)
    have h1 := ih (by omega)
    rw [gs_succ hx]
    have e : seen l (m + 1) = fun y => seen l m y || sm x y := by funext y; exact seen_succ hx y
    rw [e]
    cases hb : (l.take m).any (sm x) with
    | true =>
      rw [if_pos rfl, h1]
      congr 1
      apply List.filter_congr
      intro y _
      obtain ⟨z, hz, hxz⟩ := List.any_eq_true.1 hb
      cases hy : sm x y with
      | false => simp
      | true =>
        have : seen l m y = true := List.any_eq_true.2 ⟨z, hz, sm_trans (sm_symm hxz) hy⟩
        rw [this]; rfl
    | false =>
      rw [if_neg (by simp), List.map_append, List.sum_append, h1, filter_or]
      · simp [grp]
      · intro y _ hy
        cases hq : sm x y with
        | false => rfl
        | true =>
          exfalso
          obtain ⟨z, hz, hzy⟩ := List.any_eq_true.1 hy
          have := List.any_eq_true.2 ⟨z, hz, sm_trans hq (sm_symm hzy)⟩
          rw [hb] at this
          simp at this
theorem sum_groups (l : List Comb) : ((gs l l.length).map List.length).sum = l.length := by
  rw [sum_to l l.length (Nat.le_refl _)]
  have : l.filter (seen l l.length) = l := by
    apply List.filter_eq_self.2
    intro y hy
    unfold seen
    rw [List.take_length]
    exact List.any_eq_true.2 ⟨y, hy, sm_self y⟩
  rw [this]
end Go.Proofs.YtpcdaoeijlifmaaDoor.Q5Sum

/- Chapter 5: combs, holes, gauges: the plain functions of the program and of the reference agree, and the laws answer true. (Q5Ask) No condition but those of each theorem. -/
namespace Go.Proofs.YtpcdaoeijlifmaaDoor.Q5Ask
set_option linter.unusedVariables false
set_option linter.unusedSimpArgs false
open Go.RowKit
open Go.Proofs.YtpcdaoeijlifmaaDoor.GoP Go.Proofs.YtpcdaoeijlifmaaDoor.PlainStamp Go.Proofs.YtpcdaoeijlifmaaDoor.QBase Go.Proofs.YtpcdaoeijlifmaaDoor.Q5Comb Go.Proofs.YtpcdaoeijlifmaaDoor.Q5Gauge Go.Proofs.YtpcdaoeijlifmaaDoor.QLoop Go.Proofs.YtpcdaoeijlifmaaDoor.PComb

def nearB (g m o : Int) : Bool := m == 0 || inB g (m - o) (m + o)
def matchB (w h o : Int) (x : Comb) : Bool := nearB x.wide w o && nearB x.high h o
def measB (m : Int) : Bool := m == 0 || inB m 500 2000
def askB (l : List Comb) (w h o : Int) : Bool := okCos l && measB w && measB h && inB o 0 100
theorem measB_in {m : Int} (h : measB m = true) : 0 ≤ m ∧ m ≤ 2000 := by
  unfold measB at h
  simp only [Bool.or_eq_true, beq_iff_eq] at h
  rcases h with h | h
  · omega
  · have := inB_of h; omega
theorem isMeasured_eq (m : Int) : GiIsMeasured.P m = some (measB m) := by
  simp only [GiIsMeasured.P, isGauge_eq, Option.bind_some, letK, joinK, appK, iteK_if, measB]
  cases m == 0 <;> simp
theorem isNear_eq {g m o : Int} (hm : 0 ≤ m ∧ m ≤ 2000) (ho : 0 ≤ o ∧ o ≤ 100) : GiIsNear.P g m o = some (nearB g m o) := by
  simp only [GiIsNear.P, letK, joinK, appK, iteK_if, nearB, within_eq]
  rw [wrap_in (x := m - o) (by omega) (by omega), wrap_in (x := m + o) (by omega) (by omega)]
  cases m == 0 <;> simp
theorem l5Near_eq {g m o : Int} (hm : 0 ≤ m ∧ m ≤ 2000) (ho : 0 ≤ o ∧ o ≤ 100) : GsL5Near.P g m o = some (nearB g m o) := by
  simp only [GsL5Near.P, letK, joinK, appK, iteK_if, nearB, l1In_eq]
  rw [wrap_in (x := m - o) (by omega) (by omega), wrap_in (x := m + o) (by omega) (by omega)]
  cases m == 0 <;> simp
theorem matches_eq (x : Comb) {w h o : Int} (hw : 0 ≤ w ∧ w ≤ 2000) (hh : 0 ≤ h ∧ h ≤ 2000) (ho : 0 ≤ o ∧ o ≤ 100) : GiMatches.P x w h o = some (matchB w h o x) := by
  obtain ⟨a, b, c, d⟩ := x
  simp only [GiMatches.P, unComb, isNear_eq hw ho, isNear_eq hh ho, Option.bind_some, letK, joinK, appK, iteK_if, matchB]
  cases nearB b w o <;> simp
theorem l5Match_eq (x : Comb) {w h o : Int} (hw : 0 ≤ w ∧ w ≤ 2000) (hh : 0 ≤ h ∧ h ≤ 2000) (ho : 0 ≤ o ∧ o ≤ 100) : GsL5Match.P x w h o = some (matchB w h o x) := by
  obtain ⟨a, b, c, d⟩ := x
  simp only [GsL5Match.P, unComb, l5Near_eq hw ho, l5Near_eq hh ho, Option.bind_some, letK, joinK, appK, iteK_if, matchB]
  cases nearB b w o <;> simp
theorem canMatch_eq (l : List Comb) (w h o : Int) : GiCanMatch.P l w h o = some (askB l w h o) := by
  simp only [GiCanMatch.P, areCombs_eq, isMeasured_eq, within_eq, Option.bind_some, joinK, appK, iteK_if, askB]
  cases okCos l <;> cases measB w <;> cases measB h <;> simp
theorem asked_eq (l : List Comb) (w h o : Int) (hl : l.length ≤ 9223372036854775807) : GsL5Asked.P l w h o = some (askB l w h o) := by
  simp only [GsL5Asked.P, l5Good_eq l hl, l5Gauge_eq, l1In_eq, Option.bind_some, letK, joinK, appK, iteK_if, askB, measB]
  cases okCos l <;> cases w == 0 <;> cases h == 0 <;> cases inB w 500 2000 <;> cases inB h 500 2000 <;> simp
theorem ask_of {l : List Comb} {w h o : Int} (ha : askB l w h o = true) : l.length ≤ 10 ∧ (0 ≤ w ∧ w ≤ 2000) ∧ (0 ≤ h ∧ h ≤ 2000) ∧ (0 ≤ o ∧ o ≤ 100) := by
  unfold askB at ha; simp only [Bool.and_eq_true] at ha
  exact ⟨upL_len ha.1.1.1, measB_in ha.1.1.2, measB_in ha.1.2, inB_of ha.2⟩
end Go.Proofs.YtpcdaoeijlifmaaDoor.Q5Ask

/- A loop that gathers what a test lets through: the plain loop's answer. (QGath) No condition but those of each theorem. -/
namespace Go.Proofs.YtpcdaoeijlifmaaDoor.QGath
set_option linter.unusedVariables false
open Go.RowKit
open Go.Proofs.YtpcdaoeijlifmaaDoor.GoP Go.Proofs.YtpcdaoeijlifmaaDoor.QBase Go.Proofs.YtpcdaoeijlifmaaDoor.QLoop

theorem gather {α β R : Type} {l : List α} {p : α → Bool} {g : α → β} {f : Nat → List β → (List β → Option R) → (List β → Option R) → Option R} {fin : List β → Option R} (hl : l.length ≤ 1099511627776)
    (step : ∀ k nx x s, l[k]? = some x → s.length ≤ 1099511627776 → f k s nx fin = nx (if p x then s ++ [g x] else s)) : cntK f l.length 0 [] fin = fin ((l.filter p).map g) := by
  have key : ∀ m k, k + m = l.length → cntK f m k (((l.take k).filter p).map g) fin = fin ((l.filter p).map g) := by
    intro m
    induction m with
    | zero => intro k hk; obtain rfl : k = l.length := by omega
              rw [List.take_of_length_le (Nat.le_refl _)]; rfl
    | succ m ih =>
      intro k hk
      obtain ⟨x, hx, _⟩ := at_lt (l := l) (k := k) (by omega)
      show f k _ _ fin = _
      have hle : (((l.take k).filter p).map g).length ≤ 1099511627776 := by
        rw [List.length_map]
        have := List.length_filter_le p (l.take k)
        rw [List.length_take] at this
        omega
      rw [step k _ x _ hx hle, ← ih (k + 1) (by omega), take_next hx, List.filter_append, List.map_append]
      cases hp : p x <;> simp [List.filter, hp]
  exact key l.length 0 (by omega)
end Go.Proofs.YtpcdaoeijlifmaaDoor.QGath

/- Chapter 5: combs, holes, gauges: the plain functions of the program and of the reference agree, and the laws answer true. (Q5Match) No condition but those of each theorem. -/
namespace Go.Proofs.YtpcdaoeijlifmaaDoor.Q5Match
set_option linter.unusedVariables false
set_option linter.unusedSimpArgs false
open Go.RowKit
open Go.Proofs.YtpcdaoeijlifmaaDoor.GoP Go.Proofs.YtpcdaoeijlifmaaDoor.PlainStamp Go.Proofs.YtpcdaoeijlifmaaDoor.QBase Go.Proofs.YtpcdaoeijlifmaaDoor.Q5Ask Go.Proofs.YtpcdaoeijlifmaaDoor.Q5Comb Go.Proofs.YtpcdaoeijlifmaaDoor.QLoop Go.Proofs.YtpcdaoeijlifmaaDoor.QGath Go.Proofs.YtpcdaoeijlifmaaDoor.PComb

def matchRes (l : List Comb) (w h o : Int) : List Int × Bool := if askB l w h o = true then ((l.filter (matchB w h o)).map Comb.id, true) else ([], false)
theorem match_impl (l : List Comb) (w h o : Int) : GiMatchCombs.P l w h o = some (matchRes l w h o) := by
  simp only [GiMatchCombs.P, canMatch_eq, Option.bind_some, letK, iteK_if, matchRes]
  cases ha : askB l w h o with
  | false => simp
  | true =>
    obtain ⟨h1, hw, hh, ho⟩ := ask_of ha
    simp only [Bool.not_true, Bool.false_eq_true, if_false, if_true, GiIdsWhereCombiIdOfCombiMatchCombs1.P]
    rw [gather (p := matchB w h o) (g := Comb.id) (by omega)]
    · simp [GiIdsWhereCombiIdOfCombiMatchCombs1.e0, letK]
    · intro k nx x s hx hs
      have hi : idx l (k : Int) = some x := by rw [idx_nat, hx]
      simp only [GiIdsWhereCombiIdOfCombiMatchCombs1.l0, hi, Option.bind_some, unComb, GiMatchCombs1.P, matches_eq _ hw hh ho, GiIdOfComb.P, letK, joinK, appK, iteK_if]
      rw [guardK_pos hs]
      cases matchB w h o x <;> simp
theorem match_spec (l : List Comb) (w h o : Int) (hl : l.length ≤ 9223372036854775807) : GsMatchCombs.P l w h o = some (matchRes l w h o) := by
  simp only [GsMatchCombs.P, asked_eq l w h o hl, Option.bind_some, letK, iteK_if, matchRes]
  cases ha : askB l w h o with
  | false => simp
  | true =>
    obtain ⟨h1, hw, hh, ho⟩ := ask_of ha
    simp only [Bool.not_true, Bool.false_eq_true, if_false, if_true]
    rw [gather (p := matchB w h o) (g := Comb.id) (by omega)]
    · simp [GsMatchCombs.e0, letK]
    · intro k nx x s hx hs
      have hi : idx l (k : Int) = some x := by rw [idx_nat, hx]
      simp only [GsMatchCombs.l0, hi, Option.bind_some, unComb, l5Match_eq _ hw hh ho, letK, joinK, appK, iteK_if]
      rw [guardK_pos hs]
      cases matchB w h o x <;> simp
theorem matchRes_len (l : List Comb) (w h o : Int) : (matchRes l w h o).1.length ≤ l.length := by
  unfold matchRes
  split
  · rw [List.length_map]; exact List.length_filter_le _ _
  · simp
end Go.Proofs.YtpcdaoeijlifmaaDoor.Q5Match

/- Chapter 5: combs, holes, gauges: the plain functions of the program and of the reference agree, and the laws answer true. (Q5Turned) No condition but those of each theorem. -/
namespace Go.Proofs.YtpcdaoeijlifmaaDoor.Q5Turned
set_option linter.unusedVariables false
set_option linter.unusedSimpArgs false
open Go.RowKit
open Go.Proofs.YtpcdaoeijlifmaaDoor.GoP Go.Proofs.YtpcdaoeijlifmaaDoor.PlainStamp Go.Proofs.YtpcdaoeijlifmaaDoor.QBase Go.Proofs.YtpcdaoeijlifmaaDoor.Q5Ask Go.Proofs.YtpcdaoeijlifmaaDoor.Q5Comb Go.Proofs.YtpcdaoeijlifmaaDoor.QLoop Go.Proofs.YtpcdaoeijlifmaaDoor.QGath Go.Proofs.YtpcdaoeijlifmaaDoor.PComb

def turnB (w h o : Int) (x : Comb) : Bool := !matchB w h o x && matchB h w o x
def turnRes (l : List Comb) (w h o : Int) : List Int × Bool := if askB l w h o = true then ((l.filter (turnB w h o)).map Comb.id, true) else ([], false)
theorem turned_impl (l : List Comb) (w h o : Int) : GiTurnedCombs.P l w h o = some (turnRes l w h o) := by
  simp only [GiTurnedCombs.P, canMatch_eq, Option.bind_some, letK, iteK_if, turnRes]
  cases ha : askB l w h o with
  | false => simp
  | true =>
    obtain ⟨h1, hw, hh, ho⟩ := ask_of ha
    simp only [Bool.not_true, Bool.false_eq_true, if_false, if_true, GiIdsWhereCombiIdOfCombiTurnedCombs1.P]
    rw [gather (p := turnB w h o) (g := Comb.id) (by omega)]
    · simp [GiIdsWhereCombiIdOfCombiTurnedCombs1.e0, letK]
    · intro k nx x s hx hs
      have hi : idx l (k : Int) = some x := by rw [idx_nat, hx]
      simp only [GiIdsWhereCombiIdOfCombiTurnedCombs1.l0, hi, Option.bind_some, unComb, GiTurnedCombs1.P, matches_eq _ hw hh ho, matches_eq _ hh hw ho, GiIdOfComb.P, letK, joinK, appK, iteK_if]
      rw [guardK_pos hs]
      unfold turnB
      cases matchB w h o x <;> cases matchB h w o x <;> simp
theorem turned_spec (l : List Comb) (w h o : Int) (hl : l.length ≤ 9223372036854775807) : GsTurnedCombs.P l w h o = some (turnRes l w h o) := by
  simp only [GsTurnedCombs.P, asked_eq l w h o hl, Option.bind_some, letK, iteK_if, turnRes]
  cases ha : askB l w h o with
  | false => simp
  | true =>
    obtain ⟨h1, hw, hh, ho⟩ := ask_of ha
    simp only [Bool.not_true, Bool.false_eq_true, if_false, if_true]
    rw [gather (p := turnB w h o) (g := Comb.id) (by omega)]
    · simp [GsTurnedCombs.e0, letK]
    · intro k nx x s hx hs
      have hi : idx l (k : Int) = some x := by rw [idx_nat, hx]
      simp only [GsTurnedCombs.l0, hi, Option.bind_some, unComb, l5Match_eq _ hw hh ho, l5Match_eq _ hh hw ho, letK, joinK, appK, iteK_if]
      rw [guardK_pos hs]
      unfold turnB
      cases matchB w h o x <;> cases matchB h w o x <;> simp
theorem turnRes_len (l : List Comb) (w h o : Int) : (turnRes l w h o).1.length ≤ l.length := by
  unfold turnRes
  split
  · rw [List.length_map]; exact List.length_filter_le _ _
  · simp
end Go.Proofs.YtpcdaoeijlifmaaDoor.Q5Turned

/- Chapter 5: combs, holes, gauges: the plain functions of the program and of the reference agree, and the laws answer true. (Q5Are) No condition but those of each theorem. -/
namespace Go.Proofs.YtpcdaoeijlifmaaDoor.Q5Are
set_option linter.unusedVariables false
set_option linter.unusedSimpArgs false
open Go.RowKit
open Go.Proofs.YtpcdaoeijlifmaaDoor.GoP Go.Proofs.YtpcdaoeijlifmaaDoor.PlainStamp Go.Proofs.YtpcdaoeijlifmaaDoor.QBase Go.Proofs.YtpcdaoeijlifmaaDoor.Q5Comb Go.Proofs.YtpcdaoeijlifmaaDoor.QLoop Go.Proofs.YtpcdaoeijlifmaaDoor.PComb

theorem are_spec (l : List Comb) (hl : l.length ≤ 9223372036854775807) : GsAreCombs.P l = some (okCos l) := by simp only [GsAreCombs.P, l5Good_eq l hl, Option.bind_some]
end Go.Proofs.YtpcdaoeijlifmaaDoor.Q5Are

/- Rising rows: what a rising row gives; loops that sum; loops from one on. No condition. -/
namespace Go.Proofs.YtpcdaoeijlifmaaDoor.QUp
set_option linter.unusedVariables false
set_option linter.unusedSimpArgs false
open Go.RowKit
open Go.Proofs.YtpcdaoeijlifmaaDoor.GoP Go.Proofs.YtpcdaoeijlifmaaDoor.QBase Go.Proofs.YtpcdaoeijlifmaaDoor.QLoop Go.Proofs.YtpcdaoeijlifmaaDoor.QAll

theorem upTo_at {α : Type} {ok : α → Bool} {id : α → Int} {l : List α} {n : Nat} (h : upTo ok id l n = true) {k : Nat} (hk : k < n) : upAt ok id l k = true := List.all_eq_true.1 h k (List.mem_range.2 hk)
theorem upTo_ok {α : Type} {ok : α → Bool} {id : α → Int} {l : List α} {n : Nat} (h : upTo ok id l n = true) {k : Nat} (hk : k < n) {x : α} (hx : l[k]? = some x) : ok x = true := by
  have := upTo_at h hk
  unfold upAt at this
  rw [hx] at this
  simp only [Bool.and_eq_true] at this
  exact this.1
theorem upTo_step {α : Type} {ok : α → Bool} {id : α → Int} {l : List α} {n : Nat} (h : upTo ok id l n = true) {k : Nat} (hk : k + 1 < n) {x y : α} (hx : l[k]? = some x) (hy : l[k + 1]? = some y) : id x < id y := by
  have := upTo_at h hk
  unfold upAt at this
  rw [hy] at this
  simp only [Nat.add_sub_cancel, hx, Bool.and_eq_true, Bool.or_eq_true, decide_eq_true_eq] at this
  rcases this.2 with h0 | h0
  · omega
  · exact h0
theorem upTo_lt {α : Type} {ok : α → Bool} {id : α → Int} {l : List α} {n : Nat} (h : upTo ok id l n = true) (hn : n ≤ l.length) {i : Nat} : ∀ d {x y : α}, i + d + 1 < n → l[i]? = some x → l[i + d + 1]? = some y → id x < id y := by
  intro d
  induction d with
  | zero => intro x y hk hx hy; exact upTo_step h hk hx hy
  | succ d ih =>
    intro x y hk hx hy
    obtain ⟨z, hz, _⟩ := at_lt (l := l) (k := i + d + 1) (by omega)
    have h1 := ih (by omega) hx hz
    have h2 := upTo_step (k := i + d + 1) h (by omega) hz (by rw [← hy]; rfl)
    omega
/-- rising numbers: the later one is greater -/
theorem up_less {α : Type} {ok : α → Bool} {id : α → Int} {l : List α} (h : upTo ok id l l.length = true) {i j : Nat} {x y : α} (hij : i < j) (hx : l[i]? = some x) (hy : l[j]? = some y) : id x < id y := by
  have hj := (List.getElem?_eq_some_iff.1 hy).1
  exact upTo_lt h (Nat.le_refl _) (j - i - 1) (by omega) hx (by rw [← hy]; congr 1; omega)
/-- a loop with fuel, from k on, by an invariant -/
theorem lp_is {σ ρ : Type} {f : σ → (σ → Option ρ) → (σ → Option ρ) → Option ρ} {fin : σ → Option ρ} {n : Nat} (r : ρ) (I : Nat → σ → Prop)
    (step : ∀ k s nx, k < n → I k s → (∀ s', I (k + 1) s' → nx s' = some r) → f s nx fin = some r) (done : ∀ s nx, I n s → f s nx fin = some r) (fuel : Nat) (k : Nat) (s : σ) (hk : k ≤ n) (hf : n - k < fuel) (hI : I k s) : loopK f fuel s fin = some r := by
  obtain ⟨r', h, rfl⟩ := lp_ex (Q := fun x => x = r) I (fun k s nx hk hI hn => ⟨r, step k s nx hk hI (fun s' h' => by obtain ⟨_, h, rfl⟩ := hn s' h'; exact h), rfl⟩) (fun s nx h => ⟨r, done s nx h, rfl⟩) fuel k s hk hf hI
  exact h
theorem most_eq (a b : Int) (h : (if b < a then a else b) = max a b := by omega) : (if b < a then a else b) = max a b := h
end Go.Proofs.YtpcdaoeijlifmaaDoor.QUp

/- What the law FnCombs tells of combs: each comb is in one group of the same gauges. (Q5FnCombs) No condition but those of each theorem. -/
namespace Go.Proofs.YtpcdaoeijlifmaaDoor.Q5FnCombs
set_option linter.unusedVariables false
set_option linter.unusedSimpArgs false
open Go.RowKit
open Go.Proofs.YtpcdaoeijlifmaaDoor.GoP Go.Proofs.YtpcdaoeijlifmaaDoor.PlainStamp Go.Proofs.YtpcdaoeijlifmaaDoor.QBase Go.Proofs.YtpcdaoeijlifmaaDoor.QNum Go.Proofs.YtpcdaoeijlifmaaDoor.PlainFace Go.Proofs.YtpcdaoeijlifmaaDoor.Q5CDraws Go.Proofs.YtpcdaoeijlifmaaDoor.Q5CText Go.Proofs.YtpcdaoeijlifmaaDoor.Q5Sum Go.Proofs.YtpcdaoeijlifmaaDoor.Q5Same Go.Proofs.YtpcdaoeijlifmaaDoor.Q5Match Go.Proofs.YtpcdaoeijlifmaaDoor.Q5Turned Go.Proofs.YtpcdaoeijlifmaaDoor.Q5Ask Go.Proofs.YtpcdaoeijlifmaaDoor.Q5Are Go.Proofs.YtpcdaoeijlifmaaDoor.Q5Comb Go.Proofs.YtpcdaoeijlifmaaDoor.Q5GText Go.Proofs.YtpcdaoeijlifmaaDoor.QText Go.Proofs.YtpcdaoeijlifmaaDoor.QUp Go.Proofs.YtpcdaoeijlifmaaDoor.QLoop Go.Proofs.YtpcdaoeijlifmaaDoor.QAll Go.Proofs.YtpcdaoeijlifmaaDoor.PComb

theorem rInts_self (l : List Int) : GlRInts.P l l = some true := by
  simp only [GlRInts.P, letK, bne_self_eq_false, iteK_if, Bool.false_eq_true, if_false]
  refine cnt_is true (fun _ _ => True) ?_ (fun _ _ => rfl) () trivial
  intro k s nx hk _ hn
  obtain ⟨x, hx, hxi⟩ := at_lt (l := l) (k := k) hk
  simp only [GlRInts.l0, hxi, Option.bind_some, letK, bne_self_eq_false, iteK_if, Bool.false_eq_true, if_false, appK]
  exact hn _ trivial
theorem rTable_self (l : List (List Int)) : GlRTable.P l l = some true := by
  simp only [GlRTable.P, letK, bne_self_eq_false, iteK_if, Bool.false_eq_true, if_false]
  refine cnt_is true (fun _ _ => True) ?_ (fun _ _ => rfl) () trivial
  intro k s nx hk _ hn
  obtain ⟨x, hx, hxi⟩ := at_lt (l := l) (k := k) hk
  simp only [GlRTable.l0, hxi, Option.bind_some, rInts_self, letK, Bool.not_true, iteK_if, Bool.false_eq_true, if_false, appK]
  exact hn _ trivial
theorem rHas_eq (l : List Int) (x : Int) : GlRHas.P l x = some (l.any (· == x)) := by
  unfold GlRHas.P
  refine cnt_is (l.any (· == x)) (fun k _ => (l.take k).any (· == x) = false) ?_ ?_ () (by simp)
  · intro k s nx hk hI hn
    obtain ⟨y, hy, hyi⟩ := at_lt (l := l) (k := k) hk
    simp only [GlRHas.l0, hyi, Option.bind_some, letK, iteK_if, appK]
    cases hc : y == x with
    | true =>
      have : l.any (· == x) = true := List.any_eq_true.2 ⟨y, List.mem_of_getElem? hy, hc⟩
      rw [this]; rfl
    | false =>
      simp only [Bool.false_eq_true, if_false]
      exact hn _ (by rw [take_next hy, List.any_append, hI]; simpa using hc)
  · intro s hI
    rw [List.take_length] at hI
    rw [hI]; rfl
theorem uniq {l : List Comb} (h : okCos l = true) {i j : Nat} {x y : Comb} (hx : l[i]? = some x) (hy : l[j]? = some y) (e : x.id = y.id) : x = y := by
  unfold okCos upL at h
  simp only [Bool.and_eq_true, decide_eq_true_eq] at h
  rcases Nat.lt_trichotomy i j with hij | hij | hij
  · have := up_less h.2 hij hx hy; omega
  · subst hij; rw [hx] at hy; exact Option.some.inj hy
  · have := up_less h.2 hij hy hx; omega
theorem has_filter {l : List Comb} (h : okCos l = true) (p : Comb → Bool) {k : Nat} {y : Comb} (hy : l[k]? = some y) : ((l.filter p).map Comb.id).any (· == y.id) = p y := by
  cases hp : p y with
  | true => exact List.any_eq_true.2 ⟨y.id, List.mem_map_of_mem (List.mem_filter.2 ⟨List.mem_of_getElem? hy, hp⟩), by simp⟩
  | false =>
    rw [Bool.eq_false_iff]; intro ha
    obtain ⟨i, hi, hq⟩ := List.any_eq_true.1 ha
    obtain ⟨z, hz, rfl⟩ := List.mem_map.1 hi
    obtain ⟨hz1, hz2⟩ := List.mem_filter.1 hz
    obtain ⟨j, hj⟩ := List.getElem?_of_mem hz1
    have := uniq h hj hy (by simpa using hq)
    subst this
    rw [hp] at hz2; simp at hz2
theorem e1_yes {tapes : List Int → GoC.Tape} (ht : GoC.Tells tapes) (code : List Int) (l : List Comb) (hl : l.length ≤ 20) (ok : Bool) (s : Int) (hs : ok = true → s = (l.length : Int)) : GlFnCombs.e1 code tapes l ok s = some true := by
  obtain ⟨g, eg⟩ := drawGT_ok ht code
  obtain ⟨x, ex⟩ := drawCT_ok ht code
  have c1 := comb_impl x
  have c2 := comb_spec x
  have g1 := gauge_impl g
  have g2 := gauge_spec g
  have a1 := areCombs_eq l
  have a2 := are_spec l (by omega)
  obtain ⟨⟨p, q⟩, hr⟩ : ∃ y, y = cRes x := ⟨_, rfl⟩
  rw [← hr] at c1 c2
  obtain ⟨⟨p2, q2⟩, hr2⟩ : ∃ y : ByteArray × Bool, y = if inB g 500 2000 = true then (str (gL g), true) else (⟨#[]⟩, false) := ⟨_, rfl⟩
  rw [← hr2] at g1 g2
  obtain ⟨a, b, c, d⟩ := x
  cases ok with
  | true =>
    have := hs rfl
    subst this
    simp [GlFnCombs.e1, eg, ex, g1, g2, c1, c2, a1, a2, unComb, bind2, letK, joinK, appK, iteK_if]
  | false => simp [GlFnCombs.e1, eg, ex, g1, g2, c1, c2, a1, a2, unComb, bind2, letK, joinK, appK, iteK_if]
theorem e0_yes {tapes : List Int → GoC.Tape} (ht : GoC.Tells tapes) (code : List Int) (l : List Comb) (hl : l.length ≤ 20) (s : Int) : GlFnCombs.e0 code tapes l s = some true := by
  have s1 := same_impl l
  have s2 := same_spec l (by omega)
  cases hok : okCos l with
  | false =>
    rw [hok] at s1 s2
    simp only [Bool.false_eq_true, if_false] at s1 s2
    simp only [GlFnCombs.e0, s1, s2, bind2_some, rTable_self, Option.bind_some, letK, joinK, appK, iteK_if, beq_self_eq_true, Bool.not_true, Bool.false_eq_true, if_false]
    exact e1_yes ht code l hl false 0 (by simp)
  | true =>
    rw [hok] at s1 s2
    simp only [if_true] at s1 s2
    simp only [GlFnCombs.e0, s1, s2, bind2_some, rTable_self, Option.bind_some, letK, joinK, appK, iteK_if, beq_self_eq_true, Bool.not_true, Bool.false_eq_true, if_false]
    have hT : ∀ row ∈ gs l l.length, row.length ≤ l.length := gs_rows l l.length
    have hn := gs_len l l.length
    have hsum := sum_groups l
    generalize gs l l.length = T at hT hn hsum
    refine cnt_is true (fun k s => s = (((T.take k).map List.length).sum : Int) ∧ s ≤ 20 * (k : Int)) ?_ ?_ _ ⟨by simp, by simp⟩
    · rintro k s nx hk ⟨h1, h2⟩ hnx
      obtain ⟨row, hr, hri⟩ := at_lt (l := T) (k := k) hk
      have := hT row (List.mem_of_getElem? hr)
      simp only [GlFnCombs.l1, letK, hri, Option.bind_some, appK]
      rw [wrap_in (x := s + (row.length : Int)) (by omega) (by omega)]
      refine hnx _ ⟨?_, by omega⟩
      rw [take_next hr, List.map_append, List.sum_append, h1]
      simp
    · rintro s ⟨h1, _⟩
      rw [List.take_length, hsum] at h1
      exact e1_yes ht code l hl true s (fun _ => h1)
theorem askB_comm (l : List Comb) (w h o : Int) : askB l h w o = askB l w h o := by
  unfold askB
  cases okCos l <;> cases measB w <;> cases measB h <;> simp
theorem law_combs {tapes : List Int → GoC.Tape} (ht : GoC.Tells tapes) (code : List Int) {fuel : Nat} (hf : 1048577 ≤ fuel) : GlFnCombs.P fuel tapes code = some true := by
  obtain ⟨l, w, h, o, e1, hl⟩ := drawMatch_ok ht code fuel hf
  have m1 := match_impl l w h o
  have m2 := match_spec l w h o (by omega)
  have m3 := match_impl l h w o
  have t1 := turned_impl l w h o
  have t2 := turned_spec l w h o (by omega)
  simp only [GlFnCombs.P, GlRBig.P, Option.bind_some, letK, iteK_if]
  by_cases hbig : (65536 : Int) < (code.length : Int)
  · simp [hbig]
  · have hb0 : decide ((65536 : Int) < (code.length : Int)) = false := decide_eq_false hbig
    simp only [hb0, Bool.false_eq_true, if_false, e1, bind4, Option.bind_some]
    cases ha : askB l w h o with
    | false =>
      have hb : askB l h w o = false := by rw [askB_comm]; exact ha
      simp only [matchRes, turnRes, ha, hb, Bool.false_eq_true, if_false] at m1 m2 m3 t1 t2
      simp only [m1, m2, m3, t1, t2, bind2_some, rInts_self, Option.bind_some, letK, joinK, appK, iteK_if, beq_self_eq_true, Bool.not_true, Bool.false_eq_true, if_false]
      refine lp_is (n := 0) true (fun _ _ => True) (fun k s nx hk => by omega) ?_ fuel 0 0 (by omega) (by omega) trivial
      intro s nx _
      simp only [GlFnCombs.l0, letK, joinK, appK, iteK_if, ite_self, Bool.false_eq_true, if_false]
      exact e0_yes ht code l hl s
    | true =>
      have hb : askB l h w o = true := by rw [askB_comm]; exact ha
      have hok : okCos l = true := by unfold askB at ha; simp only [Bool.and_eq_true] at ha; exact ha.1.1.1
      simp only [matchRes, turnRes, ha, hb, if_true] at m1 m2 m3 t1 t2
      simp only [m1, m2, m3, t1, t2, bind2_some, rInts_self, Option.bind_some, letK, joinK, appK, iteK_if, beq_self_eq_true, Bool.not_true, Bool.false_eq_true, if_false]
      refine lp_is (n := l.length) true (fun k s => s = (k : Int)) ?_ ?_ fuel 0 0 (by omega) (by omega) rfl
      · rintro k s nx hk rfl hn
        obtain ⟨y, hy, hyi⟩ := at_lt (l := l) (k := k) hk
        have h1 := has_filter hok (turnB w h o) hy
        have h2 := has_filter hok (matchB h w o) hy
        have h3 := has_filter hok (matchB w h o) hy
        have hlt : decide ((k : Int) < (l.length : Int)) = true := decide_eq_true (by omega)
        have hw : IntKind.i64.wrap ((k : Int) + 1) = ((k + 1 : Nat) : Int) := next_i (by omega)
        have htb : turnB w h o y = (!matchB w h o y && matchB h w o y) := rfl
        obtain ⟨a, b, c, d⟩ := y
        dsimp only at h1 h2 h3
        simp only [GlFnCombs.l0, letK, joinK, appK, iteK_if, hlt, if_true, hyi, Option.bind_some, unComb, rHas_eq, h1, h2, h3, htb, hw]
        have := hn _ rfl
        cases matchB w h o ⟨a, b, c, d⟩ <;> cases matchB h w o ⟨a, b, c, d⟩ <;> simpa using this
      · rintro s nx rfl
        have hlt : decide ((l.length : Int) < (l.length : Int)) = false := by simp
        simp only [GlFnCombs.l0, letK, joinK, appK, iteK_if, hlt, Bool.false_eq_true, if_false]
        exact e0_yes ht code l hl _
end Go.Proofs.YtpcdaoeijlifmaaDoor.Q5FnCombs

