/- Texts of gauges and combs: the plain functions of the program and of the reference agree, and the laws answer true. (Q2StampText) No condition but those of each theorem. -/
import Derived.Test.YtfnghemjonkjiaaDoorQ2SpecFace
import Derived.Test.YtfnghemjonkjiaaDoorQ2Hund
import Derived.Test.YtfnghemjonkjiaaDoorQText
import Derived.Test.YtfnghemjonkjiaaDoorQNum
import Derived.Test.YtfnghemjonkjiaaDoorPlainFace
import Derived.Test.YtfnghemjonkjiaaDoorGlFnExactStampText
namespace Go.Proofs.YtfnghemjonkjiaaDoor.Q2StampText
set_option linter.unusedVariables false
set_option linter.unusedSimpArgs false
open Go.RowKit
open Go.Proofs.YtfnghemjonkjiaaDoor.GoP Go.Proofs.YtfnghemjonkjiaaDoor.PlainStamp Go.Proofs.YtfnghemjonkjiaaDoor.QBase Go.Proofs.YtfnghemjonkjiaaDoor.Q2SpecFace Go.Proofs.YtfnghemjonkjiaaDoor.Q2Hund Go.Proofs.YtfnghemjonkjiaaDoor.QText Go.Proofs.YtfnghemjonkjiaaDoor.QNum Go.Proofs.YtfnghemjonkjiaaDoor.PlainFace

theorem isStamp_eq (p : St) : GiIsStamp.P p = some (okSt p) := by
  obtain ⟨a, b, c, d⟩ := p
  simp only [GiIsStamp.P, unStamp, within_eq, Option.bind_some, letK, joinK, appK, iteK_if, okSt]
  cases inB a 1 999 <;> cases inB b 0 9999 <;> cases inB c 0 99 <;> simp
theorem l2Stamp_eq (p : St) : GsL2Stamp.P p = some (okSt p) := by
  obtain ⟨a, b, c, d⟩ := p
  simp only [GsL2Stamp.P, GsL2Year.P, unStamp, l1In_eq, Option.bind_some, letK, joinK, appK, iteK_if, okSt]
  cases inB a 1 999 <;> cases inB b 0 9999 <;> cases inB c 0 99 <;> simp
theorem toOne (s : St) : GlToStamp.P s = some s := by cases s; rfl
def fL (n : Int) : List UInt8 := Lib.itoa (n / 100) ++ [46, dig (n / 10 % 10), dig (n % 10)]
theorem fL_len {n : Int} (h0 : 0 ≤ n) (h : n ≤ 9999) : (fL n).length ≤ 10 := by
  have a := itoa_short (n := n / 100) (by omega) (by omega)
  unfold fL; simp; omega
theorem implFace (n : Int) : GiFaceText.P n = some (if inB n 0 9999 = true then (str (fL n), true) else (⟨#[]⟩, false)) := by
  simp only [GiFaceText.P, within_eq, Option.bind_some, letK, iteK_if]
  cases h : inB n 0 9999 with
  | false => simp
  | true => have hb := inB_of h; simp [hund_eq hb.1 hb.2, fL]
def tL (s : St) : List UInt8 := Lib.itoa s.id ++ [58, 32] ++ fL s.face ++ [32, 99, 111, 108, 111, 114, 32] ++ Lib.itoa s.color ++ [32] ++ Lib.itoa s.year
def tRes (s : St) : ByteArray × Bool := if okSt s = true then (str (tL s), true) else (⟨#[]⟩, false)
theorem st_impl (s : St) : GiStampText.P s = some (tRes s) := by
  have hok := isStamp_eq s
  unfold tRes
  cases h : okSt s with
  | false =>
    obtain ⟨i, f, k, y⟩ := s
    simp only [GiStampText.P, unStamp, implFace, hok, h, Option.bind_some, letK, joinK, appK, iteK_if]
    cases inB f 0 9999 <;> simp [bind2]
  | true =>
    obtain ⟨h1, h2, h3, h4⟩ := okSt_yes h
    have a1 := itoa_short (n := s.id) (by omega) (by omega)
    have a2 := itoa_short (n := s.color) (by omega) (by omega)
    have a3 := itoa_short (n := s.year) (by omega) (by omega)
    have a4 := fL_len h2.1 h2.2
    obtain ⟨i, f, k, y⟩ := s
    dsimp only at h1 h2 h3 h4 a1 a2 a3 a4
    have ef : inB f 0 9999 = true := inB_yes h2.1 h2.2
    simp only [GiStampText.P, unStamp, hok, h, implFace, ef, if_true, bind2, Option.bind_some, letK, joinK, appK, iteK_if, Bool.not_true, Bool.false_eq_true, if_false]
    rw [itoa_eq (by omega) (by omega), itoa_eq (by omega) (by omega), itoa_eq (by omega) (by omega)]
    simp only [Option.bind_some, itoaB_str, mk_str, str_app, str_size]
    rw [guardK_pos (by simp [maxLen]; omega), guardK_pos (by simp [maxLen]; omega), guardK_pos (by simp [maxLen]; omega), guardK_pos (by simp [maxLen]; omega), guardK_pos (by simp [maxLen]; omega), guardK_pos (by simp [maxLen]; omega)]
    simp [tL]
theorem st_spec (s : St) : GsStampText.P s = some (tRes s) := by
  have hok := l2Stamp_eq s
  unfold tRes
  cases h : okSt s with
  | false => obtain ⟨i, f, k, y⟩ := s; simp [GsStampText.P, unStamp, hok, h, letK, iteK_if]
  | true =>
    obtain ⟨h1, h2, h3, h4⟩ := okSt_yes h
    have a1 := itoa_short (n := s.id) (by omega) (by omega)
    have a2 := itoa_short (n := s.color) (by omega) (by omega)
    have a3 := itoa_short (n := s.year) (by omega) (by omega)
    have a4 := fL_len h2.1 h2.2
    obtain ⟨i, f, k, y⟩ := s
    dsimp only at h1 h2 h3 h4 a1 a2 a3 a4
    have es : GsL2Face.P f = some (str (fL f)) := specFace h2.1 h2.2
    simp only [GsStampText.P, GsL2Text.P, unStamp, hok, h, es, Option.bind_some, letK, iteK_if, Bool.not_true, Bool.false_eq_true, if_false, if_true]
    rw [num_eq (by omega) (by omega), num_eq (by omega) (by omega), num_eq (by omega) (by omega)]
    simp only [Option.bind_some, itoaB_str, mk_str, str_app, str_size]
    rw [guardK_pos (by simp [maxLen]; omega), guardK_pos (by simp [maxLen]; omega), guardK_pos (by simp [maxLen]; omega), guardK_pos (by simp [maxLen]; omega), guardK_pos (by simp [maxLen]; omega), guardK_pos (by simp [maxLen]; omega)]
    simp [tL]
theorem law_stampText (s : St) : GlFnExactStampText.P s = some true := by
  have e1 := st_impl s; have e2 := st_spec s; have e3 := toOne s
  obtain ⟨⟨p, q⟩, hr⟩ : ∃ y, y = tRes s := ⟨_, rfl⟩
  rw [← hr] at e1 e2
  obtain ⟨i, f, k, y⟩ := s
  simp [GlFnExactStampText.P, unStamp, e1, e2, e3, bind2, letK, joinK, appK, iteK_if]
end Go.Proofs.YtfnghemjonkjiaaDoor.Q2StampText
