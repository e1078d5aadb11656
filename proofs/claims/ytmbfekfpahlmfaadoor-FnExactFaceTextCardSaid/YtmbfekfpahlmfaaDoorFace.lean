/- The contracts of FaceText and of the reference's. Condition of the program's: the library's table of powers of ten is as the library lays it. -/
import Derived.Test.YtmbfekfpahlmfaaDoorTab
import Derived.Test.YtmbfekfpahlmfaaDoorNum
import Derived.Test.YtmbfekfpahlmfaaDoorPlainFace
import Derived.Outline
namespace Go.Proofs.YtmbfekfpahlmfaaDoor.Face
set_option linter.unusedVariables false
open Go.RowKit
open Go.Proofs.YtmbfekfpahlmfaaDoor.Rowed Go.Proofs.YtmbfekfpahlmfaaDoor.Turn Go.Proofs.YtmbfekfpahlmfaaDoor.Tab Go.Proofs.YtmbfekfpahlmfaaDoor.Num Go.Proofs.YtmbfekfpahlmfaaDoor.PlainFace

theorem drawn_below (w : World) (m : Nat) : Below w.heap.size w (w.drewN m) := ⟨rfl, rfl, rfl, Nat.le_refl _, fun _ _ => rfl⟩
theorem l2Face_any (n : Int) (w : World) (h0 : 0 ≤ n) (h : n ≤ 9999) :
    Calls Tryd.prog 15 #[.int .i64 n] w fun e w' => e = .returned (.string (PlainFace.str (faceL n))) ∧ ∃ m, w' = w.drewN m := by
  have a := PlainNum.itoa_len (n / 100) (by omega) (by omega)
  have b := PlainNum.itoa_len (n / 10 % 10) (by omega) (by omega)
  have c := PlainNum.itoa_len (n % 10) (by omega) (by omega)
  have z0 : (⟨#[46]⟩ : ByteArray).size = 1 := rfl
  have z1 := size_mk (Lib.itoa (n / 100))
  have z2 := size_mk (Lib.itoa (n / 10 % 10))
  have z3 := size_mk (Lib.itoa (n % 10))
  obtain ⟨p1, s1, e1, c1⟩ := join (P := Tryd.prog) ⟨(Lib.itoa (n / 100)).toArray⟩ ⟨#[46]⟩ (by omega)
  obtain ⟨p2, s2, e2, c2⟩ := join (P := Tryd.prog) p1 ⟨(Lib.itoa (n / 10 % 10)).toArray⟩ (by omega)
  obtain ⟨p3, s3, e3, c3⟩ := join (P := Tryd.prog) p2 ⟨(Lib.itoa (n % 10)).toArray⟩ (by omega)
  have HP : Hid (p3 = PlainFace.str (faceL n)) := Lib.hid (str_of (by rw [e3.out, e2.out, e1.out, list_mk, list_mk, list_mk]; rfl))
  clear s1 s2 s3 e1 e2 e3 a b c z0 z1 z2 z3
  go_enter Tryd.func15, Tryd.ntmps15
  go_wp2_with fail
  go_at_call 26
  refine (l1Num_any _ _ (by omega) (by omega)).mono ?_
  rintro e w1 ⟨rfl, m1, rfl⟩
  go_wp2_with fail
  go_at_call 26
  refine (l1Num_any _ _ (by omega) (by omega)).mono ?_
  rintro e w1 ⟨rfl, m2, rfl⟩
  go_wp2_with fail
  go_at_call 26
  refine (l1Num_any _ _ (by omega) (by omega)).mono ?_
  rintro e w1 ⟨rfl, m3, rfl⟩
  go_wp2_with fail
  go_ret
  rw [HP.out]
  exact ⟨rfl, _, rfl⟩

theorem face_spec (n : Int) (w : World) :
    Calls Tryd.prog 6 #[.int .i64 n] w (Gives (.tuple #[.string (faceRes n).1, .bool (faceRes n).2]) w) := by
  by_cases h : 0 ≤ n ∧ n ≤ 9999
  · obtain ⟨h0, h1⟩ := h
    have HR := Lib.hid (faceRes_yes h0 h1)
    go_enter Tryd.func6, Tryd.ntmps6
    go_wp2_with (first | (go_at_call 14; refine (l1In_yes n _ _ _ h0 h1).mono ?_; rintro e w' ⟨rfl, rfl⟩) | (go_at_call 15; refine (l2Face_any n _ h0 h1).mono ?_; rintro e w' ⟨rfl, m, rfl⟩))
    go_ret2
    rw [HR.out]
    exact ⟨rfl, drawn_below _ _⟩
  · have h' : n < 0 ∨ 9999 < n := by omega
    clear h
    have HR := Lib.hid (faceRes_no h')
    go_enter Tryd.func6, Tryd.ntmps6
    go_wp2_with (go_at_call 14; refine (l1In_no n _ _ _ h').mono ?_; rintro e w' ⟨rfl, rfl⟩)
    go_ret2
    rw [HR.out]
    exact ⟨rfl, Below.refl _ _⟩

theorem within_yes (x a b : Int) (w : World) (h1 : a ≤ x) (h2 : x ≤ b) :
    Calls Tryd.prog 16 #[.int .i64 x, .int .i64 a, .int .i64 b] w fun e w' => e = .returned (.bool true) ∧ w = w' := by
  go_enter Tryd.func16, Tryd.ntmps16
  go_wp2
  go_ret
  exact ⟨rfl, rfl⟩
theorem within_no (x a b : Int) (w : World) (h : x < a ∨ b < x) :
    Calls Tryd.prog 16 #[.int .i64 x, .int .i64 a, .int .i64 b] w fun e w' => e = .returned (.bool false) ∧ w = w' := by
  by_cases h1 : a ≤ x
  · have h2 : b < x := by omega
    have hd : decide (x ≤ b) = false := decide_eq_false (by omega)
    clear h
    go_enter Tryd.func16, Tryd.ntmps16
    go_wp2
    go_ret
    exact ⟨rfl, rfl⟩
  · clear h
    go_enter Tryd.func16, Tryd.ntmps16
    go_wp2
    go_ret
    exact ⟨rfl, rfl⟩

theorem behind (x y : UInt8) : (⟨#[49, x, y]⟩ : ByteArray).extract 1 3 = ⟨#[x, y]⟩ := by
  apply ByteArray.ext
  rfl
theorem face_impl (n : Int) (w : World) (ht : Hid (Tab w)) :
    Calls Tryd.prog 7 #[.int .i64 n] w (Gives (.tuple #[.string (faceRes n).1, .bool (faceRes n).2]) w) := by
  by_cases h : 0 ≤ n ∧ n ≤ 9999
  · obtain ⟨h0, h1⟩ := h
    have HR := Lib.hid (faceRes_yes h0 h1)
    have HL := Lib.hid (faceL_hund h0 h1)
    have HH := Lib.hid (itoa_hund' h0)
    have a := PlainNum.itoa_len (n / 100) (by omega) (by omega)
    have z0 : (⟨#[46]⟩ : ByteArray).size = 1 := rfl
    have z1 := size_mk (Lib.itoa (n / 100))
    have z2 : (⟨#[dig (n % 100 / 10), dig (n % 10)]⟩ : ByteArray).size = 2 := rfl
    obtain ⟨p1, s1, e1, c1⟩ := join (P := Tryd.prog) ⟨(Lib.itoa (n / 100)).toArray⟩ ⟨#[46]⟩ (by omega)
    obtain ⟨p2, s2, e2, c2⟩ := join (P := Tryd.prog) p1 ⟨#[dig (n % 100 / 10), dig (n % 10)]⟩ (by omega)
    have HP : Hid (p2 = PlainFace.str (faceL n)) := Lib.hid (str_of (by rw [e2.out, e1.out, list_mk, HL.out]))
    clear s1 s2 e1 e2 z0 z1 z2
    have hb := behind (dig (n % 100 / 10)) (dig (n % 10))
    clear a
    go_enter Tryd.func7, Tryd.ntmps7
    go_wp2_with (go_at_call 16; refine (within_yes n _ _ _ h0 h1).mono ?_; rintro e w' ⟨rfl, rfl⟩)
    go_at_call 17
    refine (itoa_any _ (by omega) (by omega) _ ht).mono ?_
    rintro e w1 ⟨rfl, hB⟩
    rw [HH.out]
    have ht1 := tab_below hB ht
    have B1 := Lib.hid hB
    clear hB
    go_wp2_with fail
    go_at_call 17
    refine (itoa_any _ (by omega) (by omega) _ ht1).mono ?_
    rintro e w2 ⟨rfl, hB⟩
    have B2 := Lib.hid (Below.step B1.out hB)
    clear hB
    go_wp2_with fail
    go_ret2
    rw [HR.out, HP.out]
    exact ⟨rfl, B2.out⟩
  · have h' : n < 0 ∨ 9999 < n := by omega
    clear h
    have HR := Lib.hid (faceRes_no h')
    go_enter Tryd.func7, Tryd.ntmps7
    go_wp2_with (go_at_call 16; refine (within_no n _ _ _ h').mono ?_; rintro e w' ⟨rfl, rfl⟩)
    go_ret2
    rw [HR.out]
    exact ⟨rfl, Below.refl _ _⟩
end Go.Proofs.YtmbfekfpahlmfaaDoor.Face
