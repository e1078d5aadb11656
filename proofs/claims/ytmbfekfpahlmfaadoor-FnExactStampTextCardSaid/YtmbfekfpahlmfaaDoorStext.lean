/- The contracts of StampText and of the reference's. Condition of the program's: the library's table of powers of ten is as the library lays it. -/
import Derived.Test.YtmbfekfpahlmfaaDoorFace
import Derived.Test.YtmbfekfpahlmfaaDoorStamp
import Derived.Test.YtmbfekfpahlmfaaDoorAid
import Derived.Test.YtmbfekfpahlmfaaDoorPlainStext
import Derived.Lib.QuietBelow
namespace Go.Proofs.YtmbfekfpahlmfaaDoor.Stext
set_option linter.unusedVariables false
open Go.RowKit
open Go.Proofs.YtmbfekfpahlmfaaDoor.Rowed Go.Proofs.YtmbfekfpahlmfaaDoor.Turn Go.Proofs.YtmbfekfpahlmfaaDoor.Aid Go.Proofs.YtmbfekfpahlmfaaDoor.Tab Go.Proofs.YtmbfekfpahlmfaaDoor.Num Go.Proofs.YtmbfekfpahlmfaaDoor.PlainStamp Go.Proofs.YtmbfekfpahlmfaaDoor.Stamp Go.Proofs.YtmbfekfpahlmfaaDoor.Face Go.Proofs.YtmbfekfpahlmfaaDoor.PlainStext
open Go.Proofs.YtmbfekfpahlmfaaDoor.PlainFace (faceL faceRes faceRes_yes faceRes_no)

theorem l1Num_below (n : Int) (w : World) (h1 : -4611686018427387904 ≤ n) (h2 : n ≤ 4611686018427387904) :
    Calls Tryd.prog 26 #[.int .i64 n] w fun e w' => e = .returned (.string ⟨(Lib.itoa n).toArray⟩) ∧ Below w.heap.size w w' := by
  refine (l1Num_any n w h1 h2).mono ?_
  rintro e w' ⟨rfl, m, rfl⟩
  exact ⟨rfl, drawn_below _ _⟩
theorem l2Face_below (n : Int) (w : World) (h0 : 0 ≤ n) (h : n ≤ 9999) :
    Calls Tryd.prog 15 #[.int .i64 n] w fun e w' => e = .returned (.string ⟨(faceL n).toArray⟩) ∧ Below w.heap.size w w' := by
  refine (l2Face_any n w h0 h).mono ?_
  rintro e w' ⟨rfl, m, rfl⟩
  exact ⟨rfl, drawn_below _ _⟩

set_option maxHeartbeats 1000000 in
set_option maxRecDepth 100000 in
theorem l2Text_any (s : St) (w : World) (h : okSt s = true) :
    Calls Tryd.prog 19 #[s.val] w (Gives (.string (str (textL s))) w) := by
  obtain ⟨a, b, c, d⟩ := s
  obtain ⟨hi, hf, hc, hy, l1, l2, l3, l4⟩ := bounds h
  dsimp only at hi hf hc hy l1 l2 l3 l4
  clear h
  have z0 := size_mk (Lib.itoa a)
  have z1 : (⟨#[58, 32]⟩ : ByteArray).size = 2 := rfl
  have z2 := size_mk (faceL b)
  have z3 : (⟨#[32, 99, 111, 108, 111, 114, 32]⟩ : ByteArray).size = 7 := rfl
  have z4 := size_mk (Lib.itoa c)
  have z5 : (⟨#[32]⟩ : ByteArray).size = 1 := rfl
  have z6 := size_mk (Lib.itoa d)
  obtain ⟨p1, s1, e1, c1⟩ := join (P := Tryd.prog) ⟨(Lib.itoa a).toArray⟩ ⟨#[58, 32]⟩ (by omega)
  obtain ⟨p2, s2, e2, c2⟩ := join (P := Tryd.prog) p1 ⟨(faceL b).toArray⟩ (by omega)
  obtain ⟨p3, s3, e3, c3⟩ := join (P := Tryd.prog) p2 ⟨#[32, 99, 111, 108, 111, 114, 32]⟩ (by omega)
  obtain ⟨p4, s4, e4, c4⟩ := join (P := Tryd.prog) p3 ⟨(Lib.itoa c).toArray⟩ (by omega)
  obtain ⟨p5, s5, e5, c5⟩ := join (P := Tryd.prog) p4 ⟨#[32]⟩ (by omega)
  obtain ⟨p6, s6, e6, c6⟩ := join (P := Tryd.prog) p5 ⟨(Lib.itoa d).toArray⟩ (by omega)
  have H : Hid (p6 = str (textL ⟨a, b, c, d⟩)) := Lib.hid (str_of (by rw [e6.out, e5.out, e4.out, e3.out, e2.out, e1.out]; rfl))
  clear z0 z1 z2 z3 z4 z5 z6 s1 s2 s3 s4 s5 s6 e1 e2 e3 e4 e5 e6
  clear l1 l2 l3 l4
  have hB0 : Below w.heap.size w (w.alloc (.cells #[.int .i64 a, .int .i64 b, .int .i64 c, .int .i64 d] 28)) := (Below.refl _ _).alloc (Nat.le_refl _) _
  obtain ⟨b0, b1, b2, b3⟩ := box4 (w := w) (v0 := .int .i64 a) (v1 := .int .i64 b) (v2 := .int .i64 c) (v3 := .int .i64 d) (T := 28) (Below.refl _ _)
  obtain ⟨wb, hwb⟩ : ∃ x, (w.alloc (.cells #[.int .i64 a, .int .i64 b, .int .i64 c, .int .i64 d] 28)) = x := ⟨_, rfl⟩
  rw [hwb] at hB0 b0 b1 b2 b3
  have HB0 := Lib.hid hB0
  clear hB0
  have k0 := cell_regrown b0
  have k1 := cell_regrown b1
  have k2 := cell_regrown b2
  have k3 := cell_regrown b3
  clear b0 b1 b2 b3
  have hn1 : ∀ (x : Int), -4611686018427387904 ≤ x → x ≤ 4611686018427387904 → ∀ d1 os, Calls Tryd.prog 26 #[.int .i64 x] (Go.Sort.grow (redrawn wb d1) os) fun e w'' => e = .returned (.string ⟨(Lib.itoa x).toArray⟩) ∧ ∃ p : Regrown, w'' = Go.Sort.grow (redrawn wb p.d) p.os := fun x h1 h2 d1 os => Calls.regrown_of (l1Num_below x _ h1 h2)
  have hn2 : ∀ d1 os, Calls Tryd.prog 15 #[.int .i64 b] (Go.Sort.grow (redrawn wb d1) os) fun e w'' => e = .returned (.string ⟨(faceL b).toArray⟩) ∧ ∃ p : Regrown, w'' = Go.Sort.grow (redrawn wb p.d) p.os := fun d1 os => Calls.regrown_of (l2Face_below b _ hf.1 hf.2)
  unfold St.val
  go_enter Tryd.func19, Tryd.ntmps19
  go_wp2_with fail
  refine wp_region_quiet_below (by kernel_rfl) (by kernel_rfl) ?_
  repeat (go_big_quiet_step (first | (go_at_call 26; exact hn1 _ (by omega) (by omega) _ _) | (go_at_call 15; exact hn2 _ _)))
  refine wpQuiet_nil ?_
  intro Y hY
  have HS := Lib.hid (Below.step HB0.out (below_class hY))
  clear hY hn1 hn2 k0 k1 k2 k3
  go_wp2_with fail
  go_ret
  rw [H.out]
  exact ⟨rfl, HS.out⟩
theorem stext_spec (s : St) (w : World) :
    Calls Tryd.prog 8 #[s.val] w (Gives (.tuple #[.string (textRes s).1, .bool (textRes s).2]) w) := by
  obtain ⟨a, b, c, d⟩ := s
  have hB0 : Below w.heap.size w (w.alloc (.cells #[.int .i64 a, .int .i64 b, .int .i64 c, .int .i64 d] 28)) := (Below.refl _ _).alloc (Nat.le_refl _) _
  obtain ⟨b0, b1, b2, b3⟩ := box4 (w := w) (v0 := .int .i64 a) (v1 := .int .i64 b) (v2 := .int .i64 c) (v3 := .int .i64 d) (T := 28) (Below.refl _ _)
  obtain ⟨wb, hwb⟩ : ∃ x, w.alloc (.cells #[.int .i64 a, .int .i64 b, .int .i64 c, .int .i64 d] 28) = x := ⟨_, rfl⟩
  rw [hwb] at hB0 b0 b1 b2 b3
  have HB0 := Lib.hid hB0
  clear hB0
  cases hok : okSt ⟨a, b, c, d⟩ with
  | false =>
    have HOK := Lib.hid hok
    have HR := Lib.hid (textRes_no hok)
    clear hok
    unfold St.val
    go_enter Tryd.func8, Tryd.ntmps8
    go_wp2_with fail
    go_at_call 18
    refine (l2Stamp_any ⟨a, b, c, d⟩ _).mono ?_
    rintro e w1 ⟨rfl, hb⟩
    rw [HOK.out]
    have HB1 := Lib.hid (Below.step HB0.out hb)
    clear hb
    go_wp2_with fail
    go_ret2
    rw [HR.out]
    exact ⟨rfl, HB1.out⟩
  | true =>
    have HOK := Lib.hid hok
    have HR := Lib.hid (textRes_yes hok)
    clear hok
    unfold St.val
    go_enter Tryd.func8, Tryd.ntmps8
    go_wp2_with fail
    go_at_call 18
    refine (l2Stamp_any ⟨a, b, c, d⟩ _).mono ?_
    rintro e w1 ⟨rfl, hb⟩
    rw [HOK.out]
    have HB1 := Lib.hid (Below.step HB0.out hb)
    have k0 := cell_below hb b0
    have k1 := cell_below hb b1
    have k2 := cell_below hb b2
    have k3 := cell_below hb b3
    clear hb b0 b1 b2 b3
    go_wp2_with fail
    go_at_call 19
    refine (l2Text_any ⟨a, b, c, d⟩ _ HOK.out).mono ?_
    rintro e w2 ⟨rfl, hb⟩
    have HB2 := Lib.hid (Below.step HB1.out hb)
    clear hb
    go_wp2_with fail
    go_ret2
    rw [HR.out]
    exact ⟨rfl, HB2.out⟩

set_option maxRecDepth 100000 in
set_option maxHeartbeats 1000000 in
theorem stext_impl (s : St) (w : World) (ht : Hid (Tab w)) :
    Calls Tryd.prog 10 #[s.val] w (Gives (.tuple #[.string (textRes s).1, .bool (textRes s).2]) w) := by
  obtain ⟨a, b, c, d⟩ := s
  have hB0 : Below w.heap.size w (w.alloc (.cells #[.int .i64 a, .int .i64 b, .int .i64 c, .int .i64 d] 28)) := (Below.refl _ _).alloc (Nat.le_refl _) _
  obtain ⟨b0, b1, b2, b3⟩ := box4 (w := w) (v0 := .int .i64 a) (v1 := .int .i64 b) (v2 := .int .i64 c) (v3 := .int .i64 d) (T := 28) (Below.refl _ _)
  obtain ⟨wb, hwb⟩ : ∃ x, w.alloc (.cells #[.int .i64 a, .int .i64 b, .int .i64 c, .int .i64 d] 28) = x := ⟨_, rfl⟩
  rw [hwb] at hB0 b0 b1 b2 b3
  have HB0 := Lib.hid hB0
  clear hB0
  have HT0 := tab_below HB0.out ht
  cases hok : okSt ⟨a, b, c, d⟩ with
  | false =>
    have HOK := Lib.hid hok
    have HR := Lib.hid (textRes_no hok)
    clear hok
    by_cases hf : 0 ≤ b ∧ b ≤ 9999
    · have HF := Lib.hid (faceRes_yes hf.1 hf.2)
      clear hf
      unfold St.val
      go_enter Tryd.func10, Tryd.ntmps10
      go_wp2_with fail
      go_at_call 7
      refine (face_impl b _ HT0).mono ?_
      rintro e w1 ⟨rfl, hb⟩
      rw [HF.out]
      have HB1 := Lib.hid (Below.step HB0.out hb)
      have k0 := cell_below hb b0
      have k1 := cell_below hb b1
      have k2 := cell_below hb b2
      have k3 := cell_below hb b3
      clear hb b0 b1 b2 b3
      go_wp2_with fail
      go_at_call 20
      refine (isStamp_impl ⟨a, b, c, d⟩ _).mono ?_
      rintro e w2 ⟨rfl, hb⟩
      rw [HOK.out]
      have HB2 := Lib.hid (Below.step HB1.out hb)
      clear hb k0 k1 k2 k3
      go_wp2_with fail
      go_ret2
      rw [HR.out]
      exact ⟨rfl, HB2.out⟩
    · have HF := Lib.hid (faceRes_no (n := b) (by omega))
      clear hf
      unfold St.val
      go_enter Tryd.func10, Tryd.ntmps10
      go_wp2_with fail
      go_at_call 7
      refine (face_impl b _ HT0).mono ?_
      rintro e w1 ⟨rfl, hb⟩
      rw [HF.out]
      have HB1 := Lib.hid (Below.step HB0.out hb)
      clear hb b0 b1 b2 b3
      go_wp2_with fail
      go_ret2
      rw [HR.out]
      exact ⟨rfl, HB1.out⟩
  | true =>
    have HOK := Lib.hid hok
    have HR := Lib.hid (textRes_yes hok)
    obtain ⟨hi, hf, hc, hy, l1, l2, l3, l4⟩ := bounds hok
    dsimp only at hi hf hc hy l1 l2 l3 l4
    clear hok
    have HF := Lib.hid (faceRes_yes hf.1 hf.2)
    have z0 := size_mk (Lib.itoa a)
    have z1 : (⟨#[58, 32]⟩ : ByteArray).size = 2 := rfl
    have z3 : (⟨#[32, 99, 111, 108, 111, 114, 32]⟩ : ByteArray).size = 7 := rfl
    have z4 := size_mk (Lib.itoa c)
    have z5 : (⟨#[32]⟩ : ByteArray).size = 1 := rfl
    have z6 := size_mk (Lib.itoa d)
    have fz : (PlainFace.str (faceL b)).size = (faceL b).length := size_mk _
    obtain ⟨p1, s1, e1, c1⟩ := join (P := Tryd.prog) ⟨(Lib.itoa a).toArray⟩ ⟨#[58, 32]⟩ (by omega)
    obtain ⟨p2, s2, e2, c2⟩ := join (P := Tryd.prog) p1 (PlainFace.str (faceL b)) (by omega)
    obtain ⟨p3, s3, e3, c3⟩ := join (P := Tryd.prog) p2 ⟨#[32, 99, 111, 108, 111, 114, 32]⟩ (by omega)
    obtain ⟨p4, s4, e4, c4⟩ := join (P := Tryd.prog) p3 ⟨(Lib.itoa c).toArray⟩ (by omega)
    obtain ⟨p5, s5, e5, c5⟩ := join (P := Tryd.prog) p4 ⟨#[32]⟩ (by omega)
    obtain ⟨p6, s6, e6, c6⟩ := join (P := Tryd.prog) p5 ⟨(Lib.itoa d).toArray⟩ (by omega)
    have H : Hid (p6 = str (textL ⟨a, b, c, d⟩)) := Lib.hid (str_of (by rw [e6.out, e5.out, e4.out, e3.out, e2.out, e1.out]; rfl))
    clear fz z0 z1 z3 z4 z5 z6 s1 s2 s3 s4 s5 s6 e1 e2 e3 e4 e5 e6
    clear l1 l2 l3 l4
    unfold St.val
    go_enter Tryd.func10, Tryd.ntmps10
    go_wp2_with fail
    go_at_call 7
    refine (face_impl b _ HT0).mono ?_
    rintro e w1 ⟨rfl, hb⟩
    rw [HF.out]
    have HT1 := tab_below hb HT0
    have HB1 := Lib.hid (Below.step HB0.out hb)
    have k0 := cell_below hb b0
    have k1 := cell_below hb b1
    have k2 := cell_below hb b2
    have k3 := cell_below hb b3
    clear hb b0 b1 b2 b3
    go_wp2_with fail
    go_at_call 20
    refine (isStamp_impl ⟨a, b, c, d⟩ _).mono ?_
    rintro e w2 ⟨rfl, hb⟩
    rw [HOK.out]
    have HT2 := tab_below hb HT1
    have HB2 := Lib.hid (Below.step HB1.out hb)
    have j0 := cell_regrown (cell_below hb k0)
    have j1 := cell_regrown (cell_below hb k1)
    have j2 := cell_regrown (cell_below hb k2)
    have j3 := cell_regrown (cell_below hb k3)
    clear hb k0 k1 k2 k3
    have hn : ∀ (x : Int), -4611686018427387904 ≤ x → x ≤ 4611686018427387904 → ∀ d1 os, Calls Tryd.prog 17 #[.int .i64 x] (Go.Sort.grow (redrawn w2 d1) os) fun e w'' => e = .returned (.string ⟨(Lib.itoa x).toArray⟩) ∧ ∃ p : Regrown, w'' = Go.Sort.grow (redrawn w2 p.d) p.os := fun x h1 h2 d1 os => Calls.regrown_of (itoa_any x (by omega) (by omega) _ (tab_below (below_regrown _ _ _) HT2))
    go_wp2_with fail
    refine wp_region_quiet_below (by kernel_rfl) (by kernel_rfl) ?_
    repeat (go_big_quiet_step ((go_at_call 17; exact hn _ (by omega) (by omega) _ _)))
    refine wpQuiet_nil ?_
    intro Y hY
    have HS := Lib.hid (Below.step HB2.out (below_class hY))
    clear hY hn j0 j1 j2 j3
    go_wp2_with fail
    go_ret2
    rw [HR.out, H.out]
    exact ⟨rfl, HS.out⟩
end Go.Proofs.YtmbfekfpahlmfaaDoor.Stext
