/- StampText: the law's plain function answers true. No condition. -/
import Derived.Test.YtfbdaedoofkcbabDoorQNum
import Derived.Test.YtfbdaedoofkcbabDoorGlFnExactStampText
namespace Go.Proofs.YtfbdaedoofkcbabDoor.QStampText
set_option linter.unusedVariables false
set_option linter.unusedSimpArgs false
open Go.RowKit
open Go.Proofs.YtfbdaedoofkcbabDoor.GoP Go.Proofs.YtfbdaedoofkcbabDoor.PlainStamp Go.Proofs.YtfbdaedoofkcbabDoor.QBase Go.Proofs.YtfbdaedoofkcbabDoor.QNum Go.Proofs.YtfbdaedoofkcbabDoor.PlainFace

theorem isStamp_eq (p : St) : GiIsStamp.P p = some (okSt p) := by
  obtain ⟨a, b, c, d⟩ := p
  simp only [GiIsStamp.P, unStamp, within_eq, Option.bind_some, letK, joinK, appK, iteK_if, okSt]
  cases inB a 1 999 <;> cases inB b 0 9999 <;> cases inB c 0 99 <;> simp
theorem l2Stamp_eq (p : St) : GsL2Stamp.P p = some (okSt p) := by
  obtain ⟨a, b, c, d⟩ := p
  simp only [GsL2Stamp.P, GsL2Year.P, unStamp, l1In_eq, Option.bind_some, letK, joinK, appK, iteK_if, okSt]
  cases inB a 1 999 <;> cases inB b 0 9999 <;> cases inB c 0 99 <;> simp
theorem toOne (s : St) : GlToStamp.P s = some s := by cases s; rfl
def dot : ByteArray := ⟨#[46]⟩
def face (n : Int) : ByteArray := itoaB (n / 100) ++ dot ++ itoaB (n / 10 % 10) ++ itoaB (n % 10)
theorem face_size {n : Int} (h0 : 0 ≤ n) (h : n ≤ 9999) : (face n).size ≤ 22 := by
  have a := itoaB_size (n := n / 100) (by omega) (by omega)
  have b := itoaB_size (n := n / 10 % 10) (by omega) (by omega)
  have c := itoaB_size (n := n % 10) (by omega) (by omega)
  have e : dot.size = 1 := rfl
  unfold face
  simp only [ByteArray.size_append]; omega
theorem specFace {n : Int} (h0 : 0 ≤ n) (h : n ≤ 9999) : GsL2Face.P n = some (face n) := by
  have a := itoaB_size (n := n / 100) (by omega) (by omega)
  have b := itoaB_size (n := n / 10 % 10) (by omega) (by omega)
  have c := itoaB_size (n := n % 10) (by omega) (by omega)
  have d1 : Int.tdiv n 100 = n / 100 := Int.tdiv_eq_ediv_of_nonneg h0
  have d2 : Int.tdiv n 10 = n / 10 := Int.tdiv_eq_ediv_of_nonneg h0
  have d3 : Int.tmod (n / 10) 10 = n / 10 % 10 := Int.tmod_eq_emod_of_nonneg (by omega)
  have d4 : Int.tmod n 10 = n % 10 := Int.tmod_eq_emod_of_nonneg h0
  simp only [GsL2Face.P, letK, d1, d2, d4]
  rw [QNum.wrap_short (by omega) (by omega), QNum.wrap_short (by omega) (by omega), d3, num_eq (by omega) (by omega), num_eq (by omega) (by omega), num_eq (by omega) (by omega)]
  simp only [Option.bind_some]
  rw [fits_cat (b := ⟨#[46]⟩) (by show _ + 1 ≤ _; omega), fits_cat (b := itoaB (n / 10 % 10)) (by simp only [ByteArray.size_append]; show _ + 1 + _ ≤ _; omega), fits_cat (b := itoaB (n % 10)) (by simp only [ByteArray.size_append]; show _ + 1 + _ + _ ≤ _; omega)]
  rfl
theorem tail2 {n : Int} (h0 : 0 ≤ n) : (itoaB (100 + n % 100)).size = 3 ∧ ByteArray.extract (itoaB (100 + n % 100)) 1 3 = itoaB (n / 10 % 10) ++ itoaB (n % 10) := by
  have e := itoa_hund (r := n % 100) (by omega) (by omega)
  have e1 := itoa_dig (d := n / 10 % 10) (by omega) (by omega)
  have e2 := itoa_dig (d := n % 10) (by omega) (by omega)
  rw [show n % 100 / 10 = n / 10 % 10 by omega, show n % 100 % 10 = n % 10 by omega] at e
  unfold itoaB
  rw [e, e1, e2]
  refine ⟨rfl, ?_⟩
  generalize dig (n / 10 % 10) = x
  generalize dig (n % 10) = y
  apply ByteArray.ext
  simp [ByteArray.extract, ByteArray.copySlice]
theorem implFace (n : Int) : GiFaceText.P n = some (if 0 ≤ n ∧ n ≤ 9999 then (face n, true) else (⟨#[]⟩, false)) := by
  by_cases hc : 0 ≤ n ∧ n ≤ 9999
  · obtain ⟨h0, h⟩ := hc
    have a := itoaB_size (n := n / 100) (by omega) (by omega)
    have b := itoaB_size (n := n / 10 % 10) (by omega) (by omega)
    have c := itoaB_size (n := n % 10) (by omega) (by omega)
    have d1 : Int.tdiv n 100 = n / 100 := Int.tdiv_eq_ediv_of_nonneg h0
    have d2 : Int.tmod n 100 = n % 100 := Int.tmod_eq_emod_of_nonneg h0
    obtain ⟨t1, t2⟩ := tail2 h0
    have e : inB n 0 9999 = true := by unfold inB; simp; omega
    simp only [GiFaceText.P, within_eq, e, Option.bind_some, letK, iteK_if, Bool.not_true, Bool.false_eq_true, if_false, d1, d2]
    rw [QNum.wrap_short (by omega) (by omega), QNum.wrap_short (by omega) (by omega), itoa_eq (by omega) (by omega), itoa_eq (by omega) (by omega)]
    simp only [Option.bind_some]
    rw [guardK_pos (by rw [t1]; omega), fits_cat (b := ⟨#[46]⟩) (by show _ + 1 ≤ _; omega), t1, show Int.toNat 1 = 1 from rfl, t2, fits_cat (by simp only [ByteArray.size_append]; show _ + 1 + (_ + _) ≤ _; omega), if_pos ⟨h0, h⟩]
    unfold face
    rw [← ByteArray.append_assoc]
    rfl
  · have e : inB n 0 9999 = false := by unfold inB; simp; omega
    simp only [GiFaceText.P, within_eq, e, Option.bind_some, letK, iteK_if, if_neg hc]
    rfl
def co : ByteArray := ⟨#[58, 32]⟩
def colW : ByteArray := ⟨#[32, 99, 111, 108, 111, 114, 32]⟩
def sp : ByteArray := ⟨#[32]⟩
def txt (s : St) : ByteArray := itoaB s.id ++ co ++ face s.face ++ colW ++ itoaB s.color ++ sp ++ itoaB s.year
theorem impl_eq (s : St) : GiStampText.P s = some (if okSt s then (txt s, true) else (⟨#[]⟩, false)) := by
  cases hok : okSt s with
  | true =>
    obtain ⟨h1, h2, h3, h4⟩ := okSt_yes hok
    have a := itoaB_size (n := s.id) (by omega) (by omega)
    have b := itoaB_size (n := s.color) (by omega) (by omega)
    have c := itoaB_size (n := s.year) (by omega) (by omega)
    have d := face_size h2.1 h2.2
    obtain ⟨i, f, k, y⟩ := s
    dsimp only at h1 h2 h3 h4 a b c d
    have hi := itoa_eq (n := i) (by omega) (by omega); have hk := itoa_eq (n := k) (by omega) (by omega); have hy := itoa_eq (n := y) (by omega) (by omega)
    simp only [GiStampText.P, unStamp, implFace, if_pos h2, bind2, isStamp_eq, hok, hi, hk, hy, Option.bind_some, letK, joinK, appK, iteK_if, Bool.not_true, Bool.false_eq_true, if_false]
    rw [fits_cat (b := ⟨#[58, 32]⟩) (by show _ + 2 ≤ _; omega), fits_cat (b := face f) (by simp only [ByteArray.size_append]; show _ + 2 + _ ≤ _; omega), fits_cat (b := ⟨#[32, 99, 111, 108, 111, 114, 32]⟩) (by simp only [ByteArray.size_append]; show _ + 2 + _ + 7 ≤ _; omega),
      fits_cat (b := itoaB k) (by simp only [ByteArray.size_append]; show _ + 2 + _ + 7 + _ ≤ _; omega), fits_cat (b := ⟨#[32]⟩) (by simp only [ByteArray.size_append]; show _ + 2 + _ + 7 + _ + 1 ≤ _; omega), fits_cat (b := itoaB y) (by simp only [ByteArray.size_append]; show _ + 2 + _ + 7 + _ + 1 + _ ≤ _; omega)]
    rfl
  | false =>
    obtain ⟨i, f, k, y⟩ := s
    simp only [GiStampText.P, unStamp, implFace, isStamp_eq, hok, Option.bind_some, letK, joinK, appK, iteK_if]
    by_cases hf : 0 ≤ f ∧ f ≤ 9999
    · simp [hf, bind2]
    · simp [hf, bind2]
theorem spec_eq (s : St) : GsStampText.P s = some (if okSt s then (txt s, true) else (⟨#[]⟩, false)) := by
  cases hok : okSt s with
  | true =>
    obtain ⟨h1, h2, h3, h4⟩ := okSt_yes hok
    have a := itoaB_size (n := s.id) (by omega) (by omega)
    have b := itoaB_size (n := s.color) (by omega) (by omega)
    have c := itoaB_size (n := s.year) (by omega) (by omega)
    have d := face_size h2.1 h2.2
    obtain ⟨i, f, k, y⟩ := s
    dsimp only at h1 h2 h3 h4 a b c d
    have hi := num_eq (n := i) (by omega) (by omega); have hk := num_eq (n := k) (by omega) (by omega); have hy := num_eq (n := y) (by omega) (by omega)
    simp only [GsStampText.P, GsL2Text.P, unStamp, specFace h2.1 h2.2, l2Stamp_eq, hok, hi, hk, hy, Option.bind_some, letK, iteK_if, Bool.not_true, Bool.false_eq_true, if_false]
    rw [fits_cat (b := ⟨#[58, 32]⟩) (by show _ + 2 ≤ _; omega), fits_cat (b := face f) (by simp only [ByteArray.size_append]; show _ + 2 + _ ≤ _; omega), fits_cat (b := ⟨#[32, 99, 111, 108, 111, 114, 32]⟩) (by simp only [ByteArray.size_append]; show _ + 2 + _ + 7 ≤ _; omega),
      fits_cat (b := itoaB k) (by simp only [ByteArray.size_append]; show _ + 2 + _ + 7 + _ ≤ _; omega), fits_cat (b := ⟨#[32]⟩) (by simp only [ByteArray.size_append]; show _ + 2 + _ + 7 + _ + 1 ≤ _; omega), fits_cat (b := itoaB y) (by simp only [ByteArray.size_append]; show _ + 2 + _ + 7 + _ + 1 + _ ≤ _; omega)]
    rfl
  | false =>
    obtain ⟨i, f, k, y⟩ := s
    simp [GsStampText.P, unStamp, l2Stamp_eq, hok, letK, iteK_if]
theorem stampText (s : St) : GlFnExactStampText.P s = some true := by
  have e1 := impl_eq s; have e2 := spec_eq s; have e3 := toOne s
  obtain ⟨i, f, k, y⟩ := s
  simp only [GlFnExactStampText.P, unStamp, e3, e2, Option.bind_some, letK, joinK, appK, iteK_if]
  cases hok : okSt ⟨i, f, k, y⟩ <;> simp [e1, hok, bind2]
end Go.Proofs.YtfbdaedoofkcbabDoor.QStampText
