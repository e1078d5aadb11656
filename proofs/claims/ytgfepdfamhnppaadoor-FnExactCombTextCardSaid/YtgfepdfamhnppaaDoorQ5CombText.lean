/- Texts of gauges and combs: the plain functions of the program and of the reference agree, and the laws answer true. (Q5CombText) No condition but those of each theorem. -/
import Derived.Test.YtgfepdfamhnppaaDoorQ5GText
import Derived.Test.YtgfepdfamhnppaaDoorQText
import Derived.Test.YtgfepdfamhnppaaDoorQNum
import Derived.Test.YtgfepdfamhnppaaDoorPlainFace
import Derived.Test.YtgfepdfamhnppaaDoorPComb
import Derived.Test.YtgfepdfamhnppaaDoorGoRComb
import Derived.Test.YtgfepdfamhnppaaDoorGlFnExactCombText
namespace Go.Proofs.YtgfepdfamhnppaaDoor.Q5CombText
set_option linter.unusedVariables false
set_option linter.unusedSimpArgs false
open Go.RowKit
open Go.Proofs.YtgfepdfamhnppaaDoor.GoP Go.Proofs.YtgfepdfamhnppaaDoor.PlainStamp Go.Proofs.YtgfepdfamhnppaaDoor.QBase Go.Proofs.YtgfepdfamhnppaaDoor.Q5GText Go.Proofs.YtgfepdfamhnppaaDoor.QText Go.Proofs.YtgfepdfamhnppaaDoor.QNum Go.Proofs.YtgfepdfamhnppaaDoor.PlainFace Go.Proofs.YtgfepdfamhnppaaDoor.PComb

def okC (x : Comb) : Bool := inB x.id 1 99 && inB x.wide 500 2000 && inB x.high 500 2000
theorem isComb_eq (p : Comb) : GiIsComb.P p = some (okC p) := by
  obtain ⟨a, b, c, d⟩ := p
  simp only [GiIsComb.P, GiIsGauge.P, unComb, within_eq, Option.bind_some, letK, joinK, appK, iteK_if, okC]
  cases inB a 1 99 <;> cases inB b 500 2000 <;> cases inB c 500 2000 <;> simp
theorem l5One_eq (p : Comb) : GsL5One.P p = some (okC p) := by
  obtain ⟨a, b, c, d⟩ := p
  simp only [GsL5One.P, GsL5Gauge.P, unComb, l1In_eq, Option.bind_some, letK, joinK, appK, iteK_if, okC]
  cases inB a 1 99 <;> cases inB b 500 2000 <;> cases inB c 500 2000 <;> simp
def cL (x : Comb) : List UInt8 := 99 :: Lib.itoa x.id ++ 32 :: gL x.wide ++ (if x.high = x.wide then [] else [32, 120, 32] ++ gL x.high) ++ (if x.line = true then [32, 108, 105, 110, 101] else [])
def cRes (x : Comb) : ByteArray × Bool := if okC x = true then (str (cL x), true) else (⟨#[]⟩, false)
theorem okC_in {x : Comb} (h : okC x = true) : (1 ≤ x.id ∧ x.id ≤ 99) ∧ (500 ≤ x.wide ∧ x.wide ≤ 2000) ∧ (500 ≤ x.high ∧ x.high ≤ 2000) := by
  unfold okC at h; simp only [Bool.and_eq_true] at h
  exact ⟨inB_of h.1.1, inB_of h.1.2, inB_of h.2⟩
theorem comb_impl (x : Comb) : GiCombText.P x = some (cRes x) := by
  have hok := isComb_eq x
  unfold cRes
  cases h : okC x with
  | false => obtain ⟨a, b, c, d⟩ := x; simp [GiCombText.P, unComb, hok, h, letK, iteK_if]
  | true =>
    obtain ⟨h1, h2, h3⟩ := okC_in h
    have a1 := itoa_short (n := x.id) (by omega) (by omega)
    have a2 := gL_len h2.1 h2.2
    have a3 := gL_len h3.1 h3.2
    obtain ⟨a, b, c, d⟩ := x
    dsimp only at h1 h2 h3 a1 a2 a3
    have ew : inB b 500 2000 = true := inB_yes h2.1 h2.2
    have eh : inB c 500 2000 = true := inB_yes h3.1 h3.2
    simp only [GiCombText.P, GiCombText.j0, GiCombText.j1, unComb, hok, h, gauge_impl, ew, eh, if_true, bind2, Option.bind_some, letK, iteK_if, Bool.not_true, Bool.false_eq_true, if_false]
    rw [itoa_eq (by omega) (by omega)]
    simp only [Option.bind_some, itoaB_str]
    simp only [mk_str, str_app, str_size]
    rw [guardK_pos (by simp [maxLen]; omega), guardK_pos (by simp [maxLen]; omega), guardK_pos (by simp [maxLen]; omega), guardK_pos (by simp [maxLen]; omega), guardK_pos (by simp [maxLen]; omega), guardK_pos (by simp [maxLen]; omega), guardK_pos (by simp [maxLen]; omega)]
    by_cases he : c = b <;> cases d <;> simp [he, cL]
theorem comb_spec (x : Comb) : GsCombText.P x = some (cRes x) := by
  have hok := l5One_eq x
  unfold cRes
  cases h : okC x with
  | false => obtain ⟨a, b, c, d⟩ := x; simp [GsCombText.P, unComb, hok, h, letK, iteK_if]
  | true =>
    obtain ⟨h1, h2, h3⟩ := okC_in h
    have a1 := itoa_short (n := x.id) (by omega) (by omega)
    have a2 := gL_len h2.1 h2.2
    have a3 := gL_len h3.1 h3.2
    obtain ⟨a, b, c, d⟩ := x
    dsimp only at h1 h2 h3 a1 a2 a3
    simp only [GsCombText.P, GsCombText.j0, GsCombText.j1, unComb, hok, h, text_spec h2.1 h2.2, text_spec h3.1 h3.2, Option.bind_some, letK, iteK_if, Bool.not_true, Bool.false_eq_true, if_false]
    rw [num_eq (by omega) (by omega)]
    simp only [Option.bind_some, itoaB_str]
    simp only [mk_str, str_app, str_size]
    rw [guardK_pos (by simp [maxLen]; omega), guardK_pos (by simp [maxLen]; omega), guardK_pos (by simp [maxLen]; omega), guardK_pos (by simp [maxLen]; omega), guardK_pos (by simp [maxLen]; omega), guardK_pos (by simp [maxLen]; omega), guardK_pos (by simp [maxLen]; omega)]
    by_cases he : c = b <;> cases d <;> simp [he, cL]
theorem toOne (s : Comb) : GlToComb.P s = some s := by cases s; rfl
theorem law_combText (x : Comb) : GlFnExactCombText.P x = some true := by
  have e1 := comb_impl x; have e2 := comb_spec x; have e3 := toOne x
  obtain ⟨⟨p, q⟩, hr⟩ : ∃ y, y = cRes x := ⟨_, rfl⟩
  obtain ⟨a, b, c, d⟩ := x
  rw [← hr] at e1 e2
  simp [GlFnExactCombText.P, unComb, e1, e2, e3, bind2, letK, joinK, appK, iteK_if]
end Go.Proofs.YtgfepdfamhnppaaDoor.Q5CombText
