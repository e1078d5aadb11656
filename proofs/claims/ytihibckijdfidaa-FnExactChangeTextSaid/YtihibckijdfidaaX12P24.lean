/- Texts on which the proofs of several laws stand, one behind the other (24 of 24). No condition of their own. -/
import Derived.Test.YtihibckijdfidaaChecked
import Derived.Test.YtihibckijdfidaaX12P1
import Derived.WalkKit
import Derived.WalkSpells
import Derived.WalkLawsBesides
import Derived.BigQuiet
import Derived.OwnWalk
import Derived.Deep.LoopGhost
import Derived.Deep.QuietTactic
import Derived.IntWalk
import Derived.Lib.QuietBelow
import Derived.Test.YtihibckijdfidaaX12P6
import Derived.Test.YtihibckijdfidaaX12P10
set_option linter.unusedVariables false
set_option linter.unusedSimpArgs false
namespace Go.Proofs.Ytihibckijdfidaa.GsChangeText
open Go.RowKit
open Go.Proofs.Ytihibckijdfidaa.Rowed Go.Proofs.Ytihibckijdfidaa.Turn Go.Proofs.Ytihibckijdfidaa.Aid Go.Proofs.Ytihibckijdfidaa.GoP Go.Proofs.Ytihibckijdfidaa.GoM

def j0 (nx0 : (ByteArray) → Option (ByteArray × Bool)) (k0 : Nat) (s : ByteArray) : Option (ByteArray × Bool) :=
 letK ([(⟨#[100, 97, 121]⟩ : ByteArray), (⟨#[122, 111, 110, 101]⟩ : ByteArray), (⟨#[103, 114, 97, 109, 115]⟩ : ByteArray), (⟨#[112, 97, 105, 100]⟩ : ByteArray)]) fun (t_24 : (List ByteArray)) =>
 Option.bind (idx t_24 (k0 : Int)) fun (yt_26 : ByteArray) =>
 guardK (s.size + yt_26.size ≤ maxLen) <|
 letK (s ++ yt_26) fun (t_28 : ByteArray) =>
 appK nx0 (t_28)

def l0 (change : Int) (k0 : Nat) (s : ByteArray) (nx0 bk0 : ByteArray → Option (ByteArray × Bool)) : Option (ByteArray × Bool) :=
 letK s fun s_4l0 =>
 letK ([1, 2, 4, 8]) fun (t_12 : (List Int)) =>
 Option.bind (idx t_12 (k0 : Int)) fun (yt_14 : Int) =>
 Option.bind (GsL12Has.P change yt_14) fun (t_16 : Bool) =>
 letK (!t_16) fun (t_17 : Bool) =>
 iteK t_17
 (appK nx0 (s_4l0))
 (letK (!s_4l0.toList.isEmpty) fun (t_19 : Bool) =>
 iteK t_19
 (guardK (s_4l0.size + (⟨#[43]⟩ : ByteArray).size ≤ maxLen) <|
 letK (s_4l0 ++ (⟨#[43]⟩ : ByteArray)) fun (t_21 : ByteArray) =>
 j0 nx0 k0 (t_21))
 (j0 nx0 k0 (s_4l0)))

def e0  (s : ByteArray) : Option (ByteArray × Bool) :=
 letK s fun s_4l0 =>
 letK (s_4l0.toList.isEmpty) fun (t_34 : Bool) =>
 iteK t_34
 (some ((⟨#[110, 111, 110, 101]⟩ : ByteArray), true))
 (some (s_4l0, true))

def P (change : Int) : Option (ByteArray × Bool) :=
 Option.bind (GsL1In.P change 0 15) fun (t_3 : Bool) =>
 letK (!t_3) fun (t_4 : Bool) =>
 iteK t_4
 (some ((⟨#[]⟩ : ByteArray), false))
 (cntK (l0 change) (4) 0 ((⟨#[]⟩ : ByteArray)) (e0 ))

set_option maxRecDepth 100000 in
set_option maxHeartbeats 2000000 in
theorem C (change : Int)   (w : World)   {r0 : ByteArray} {r1 : Bool} (H : Hid (P change = some (r0, r1))) :
  Calls Try.prog 39 #[.int .i64 change] w (Gives (.tuple #[.string r0, .bool r1]) w) := by
 have HB := Lib.hid (Below.refl w.heap.size w); unfold P at H
 go_enter Try.func39, Try.ntmps39
 replace H := bind_hid H; obtain ⟨t_3, qt_3, H⟩ := H; go_wp2_with fail; go_at_call 87; refine (GsL1In.C (change) (0) (15)  _    qt_3).mono ?_; rintro j12 wt_3 ⟨rfl, bt_3⟩; have e11 := Lib.hid (Below.step HB.out bt_3); clear bt_3
 cases t_3 with
 | false =>
  replace H := let_hid H; obtain ⟨t_4, ht_4, H⟩ := H; obtain rfl : t_4 = true := ht_4.symm; replace H := ite_t H; cases ret_hid H; go_wp2_with fail; go_ret2; exact ⟨rfl, e11.out⟩
 | true =>
  replace H := let_hid H; obtain ⟨t_4, ht_4, H⟩ := H; obtain rfl : t_4 = false := ht_4.symm; replace H := ite_f H; go_wp2_with fail; go_loopg [5, 4] (4) (fun m_ v5_ v4_ wr => ∃ (k0 : Nat) (w10 : ByteArray), k0 + m_ = 4 ∧ v5_ = .int .i64 (k0 : Int) ∧ v4_ = .string w10 ∧ Hid (cntK (l0 change) m_ k0 (w10) (e0 ) = some (r0, r1)) ∧ Hid (Below w.heap.size w wr))
  case atStart => exact ⟨0, _, by omega, rfl, rfl, H, e11⟩
  case round =>
   obtain ⟨k0, w10, hkm0, rfl, rfl, H, p10⟩ := hrel; rename World => wr0
   cases gk with
   | zero =>
    obtain rfl : k0 = 4 := (by omega); have hc0 : decide (((4 : Nat) : Int) < ((4 : Nat) : Int)) = false := (by simp); replace H := cnt_zero H; unfold e0 at H; replace H := let_hid H; obtain ⟨_, rfl, H⟩ := H; replace H := let_hid H; obtain ⟨t_34, p12, H⟩ := H
    cases t_34 with
    | false =>
     replace H := ite_f H; cases ret_hid H; go_wp2_with fail; go_ret2; exact ⟨rfl, p10.out⟩
    | true =>
     replace H := ite_t H; cases ret_hid H; go_wp2_with fail; go_ret2; exact ⟨rfl, p10.out⟩
   | succ m0 =>
    have hlt0 : k0 < 4 := (by omega); have hc0 : decide ((k0 : Int) < ((4 : Nat) : Int)) = true := (by simp; omega); replace H := cnt_succ H; have hd0 : decide ((k0 : Int) < 4) = true := (by simp; omega); unfold l0 at H; replace H := let_hid H; obtain ⟨_, rfl, H⟩ := H; replace H := let_hid H; obtain ⟨t_12, o10, H⟩ := H; obtain ⟨i11, f11⟩ : ∃ x, wr0.alloc (.cells #[.int .i64 1, .int .i64 2, .int .i64 4, .int .i64 8] 3) = x := ⟨_, rfl⟩; have g11 : Below wr0.heap.size wr0 i11 := (by rw [← f11]; exact (Below.refl _ _).alloc (Nat.le_refl _) _); have d11 := p10.out.size; have c11 : t_12.length = 4 := (by rw [← o10]; rfl)
    have b10 : Hid (i11.ownsRow w.heap.size 3 1 (.slice (some ⟨wr0.heap.size, 0, none⟩) 4 4) 4 (HelpInt.iv t_12)) := by
     rw [← f11, ← o10]; have e_ : ([.int .i64 1, .int .i64 2, .int .i64 4, .int .i64 8] : List Value) = (HelpInt.iv ([1, 2, 4, 8] : List Int)) := rfl; exact Lib.hid (own_laid (n := 4) d11 e_ rfl (by unfold maxLen; omega))
    clear d11; have i12 := Lib.hid o10; clear o10; replace c11 := Lib.hid c11; have y11 := Lib.hid (Below.step p10.out g11); clear g11; replace H := idx_hid H; obtain ⟨p11, a12, w11, v12, z11, H⟩ := H; obtain rfl : k0 = p11 := (by omega); clear w11; have b12 := c11.out; obtain ⟨r12, t12, n12, j11, h11, g10⟩ := HelpInt.Ints.at_ (own_cells b10.out) (k := k0) (by omega); obtain rfl := Option.some.inj (z11.out.symm.trans h11); simp only [Option.some.injEq, Addr.mk.injEq] at j11; obtain ⟨rfl, rfl, _⟩ := j11; clear h11; simp only [Nat.zero_add] at g10; have g12 : (0 : Int) ≤ (k0 : Int) := (by omega); have o12 : (k0 : Int) < ((4 : Nat) : Int) := (by omega); have k12 : ((k0 : Int)).toNat = k0 := (by omega); clear b12; replace H := bind_hid H; obtain ⟨t_16, c12, H⟩ := H; go_wp2_with fail; go_at_call 102; refine (GsL12Has.C (change) (a12)  _    c12).mono ?_; rintro l12 d10 ⟨rfl, q10⟩; have m10 := Lib.hid (Below.step y11.out q10); replace g10 := cell_below q10 g10; replace b10 := Lib.hid (own_below b10.out q10); clear q10
    cases t_16 with
    | false =>
     replace H := let_hid H; obtain ⟨t_17, v10, H⟩ := H; obtain rfl : t_17 = true := v10.symm; replace H := ite_t H; replace H := app_hid H; go_wp2_with fail
     go_roundg m0
     case measure => omega
     case rel => exact ⟨k0 + 1, _, by omega, by go_num, rfl, H, m10⟩
    | true =>
     replace H := let_hid H; obtain ⟨t_17, v10, H⟩ := H; obtain rfl : t_17 = false := v10.symm; replace H := ite_f H; replace H := let_hid H; obtain ⟨t_19, s12, H⟩ := H
     cases t_19 with
     | false =>
      replace H := ite_f H; unfold j0 at H; replace H := let_hid H; obtain ⟨t_24, c10, H⟩ := H; obtain ⟨n10, l10⟩ : ∃ x, d10.alloc (.cells #[.string (⟨#[100, 97, 121]⟩ : ByteArray), .string (⟨#[122, 111, 110, 101]⟩ : ByteArray), .string (⟨#[103, 114, 97, 109, 115]⟩ : ByteArray), .string (⟨#[112, 97, 105, 100]⟩ : ByteArray)] 9) = x := ⟨_, rfl⟩; have a10 : Below d10.heap.size d10 n10 := (by rw [← l10]; exact (Below.refl _ _).alloc (Nat.le_refl _) _); have i10 := m10.out.size; have f10 : t_24.length = 4 := (by rw [← c10]; rfl)
      have a11 : Hid (n10.ownsRow w.heap.size 9 1 (.slice (some ⟨d10.heap.size, 0, none⟩) 4 4) 4 (t_24.map Value.string)) := by
       rw [← l10, ← c10]; have e_ : ([.string (⟨#[100, 97, 121]⟩ : ByteArray), .string (⟨#[122, 111, 110, 101]⟩ : ByteArray), .string (⟨#[103, 114, 97, 109, 115]⟩ : ByteArray), .string (⟨#[112, 97, 105, 100]⟩ : ByteArray)] : List Value) = (([(⟨#[100, 97, 121]⟩ : ByteArray), (⟨#[122, 111, 110, 101]⟩ : ByteArray), (⟨#[103, 114, 97, 109, 115]⟩ : ByteArray), (⟨#[112, 97, 105, 100]⟩ : ByteArray)] : List ByteArray).map Value.string) := rfl; exact Lib.hid (own_laid (n := 4) i10 e_ rfl (by unfold maxLen; omega))
      clear i10; have d12 := Lib.hid c10; clear c10; replace f10 := Lib.hid f10; have v11 := Lib.hid (apart_fresh b10.out); have s10 := Lib.hid (Below.step m10.out a10); have h12 := cell_below a10 g10; replace b10 := Lib.hid (own_below b10.out a10); clear a10; replace H := idx_hid H; obtain ⟨t10, m11, y10, x11, z10, H⟩ := H; obtain rfl : k0 = t10 := (by omega); clear y10; have b11 := f10.out; obtain ⟨q11, r11, s11, j10, k10, r10⟩ := strs_at (own_cells a11.out) (k := k0) (by omega); obtain rfl := Option.some.inj (z10.out.symm.trans k10); simp only [Option.some.injEq, Addr.mk.injEq] at j10; obtain ⟨rfl, rfl, _⟩ := j10; clear k10; simp only [Nat.zero_add] at r10; have o11 : (0 : Int) ≤ (k0 : Int) := (by omega); have n11 : (k0 : Int) < ((4 : Nat) : Int) := (by omega); have l11 : ((k0 : Int)).toNat = k0 := (by omega); clear b11; replace H := guard_hid H; obtain ⟨h10, H⟩ := H; replace H := let_hid H; obtain ⟨t_28, e10, H⟩ := H; have t11 := cat_rule (P := Try.prog) e10 h10; clear h10; have e12 := Lib.hid e10; clear e10; replace H := app_hid H; go_wp2_with fail; clear g10
      go_roundg m0
      case measure => omega
      case rel => exact ⟨k0 + 1, _, by omega, by go_num, rfl, H, s10⟩
     | true =>
      replace H := ite_t H; replace H := guard_hid H; obtain ⟨k11, H⟩ := H; replace H := let_hid H; obtain ⟨t_21, x10, H⟩ := H; have q12 := cat_rule (P := Try.prog) x10 k11; clear k11; have m12 := Lib.hid x10; clear x10; unfold j0 at H; replace H := let_hid H; obtain ⟨t_24, c10, H⟩ := H; obtain ⟨n10, l10⟩ : ∃ x, d10.alloc (.cells #[.string (⟨#[100, 97, 121]⟩ : ByteArray), .string (⟨#[122, 111, 110, 101]⟩ : ByteArray), .string (⟨#[103, 114, 97, 109, 115]⟩ : ByteArray), .string (⟨#[112, 97, 105, 100]⟩ : ByteArray)] 9) = x := ⟨_, rfl⟩; have a10 : Below d10.heap.size d10 n10 := (by rw [← l10]; exact (Below.refl _ _).alloc (Nat.le_refl _) _); have i10 := m10.out.size; have f10 : t_24.length = 4 := (by rw [← c10]; rfl)
      have a11 : Hid (n10.ownsRow w.heap.size 9 1 (.slice (some ⟨d10.heap.size, 0, none⟩) 4 4) 4 (t_24.map Value.string)) := by
       rw [← l10, ← c10]; have e_ : ([.string (⟨#[100, 97, 121]⟩ : ByteArray), .string (⟨#[122, 111, 110, 101]⟩ : ByteArray), .string (⟨#[103, 114, 97, 109, 115]⟩ : ByteArray), .string (⟨#[112, 97, 105, 100]⟩ : ByteArray)] : List Value) = (([(⟨#[100, 97, 121]⟩ : ByteArray), (⟨#[122, 111, 110, 101]⟩ : ByteArray), (⟨#[103, 114, 97, 109, 115]⟩ : ByteArray), (⟨#[112, 97, 105, 100]⟩ : ByteArray)] : List ByteArray).map Value.string) := rfl; exact Lib.hid (own_laid (n := 4) i10 e_ rfl (by unfold maxLen; omega))
      clear i10; have d12 := Lib.hid c10; clear c10; replace f10 := Lib.hid f10; have v11 := Lib.hid (apart_fresh b10.out); have s10 := Lib.hid (Below.step m10.out a10); have f12 := cell_below a10 g10; replace b10 := Lib.hid (own_below b10.out a10); clear a10; replace H := idx_hid H; obtain ⟨t10, m11, y10, x11, z10, H⟩ := H; obtain rfl : k0 = t10 := (by omega); clear y10; have b11 := f10.out; obtain ⟨q11, r11, s11, j10, k10, r10⟩ := strs_at (own_cells a11.out) (k := k0) (by omega); obtain rfl := Option.some.inj (z10.out.symm.trans k10); simp only [Option.some.injEq, Addr.mk.injEq] at j10; obtain ⟨rfl, rfl, _⟩ := j10; clear k10; simp only [Nat.zero_add] at r10; have o11 : (0 : Int) ≤ (k0 : Int) := (by omega); have n11 : (k0 : Int) < ((4 : Nat) : Int) := (by omega); have l11 : ((k0 : Int)).toNat = k0 := (by omega); clear b11; replace H := guard_hid H; obtain ⟨h10, H⟩ := H; replace H := let_hid H; obtain ⟨t_28, e10, H⟩ := H; have t11 := cat_rule (P := Try.prog) e10 h10; clear h10; have e12 := Lib.hid e10; clear e10; replace H := app_hid H; go_wp2_with fail; clear g10
      go_roundg m0
      case measure => omega
      case rel => exact ⟨k0 + 1, _, by omega, by go_num, rfl, H, s10⟩
end Go.Proofs.Ytihibckijdfidaa.GsChangeText

namespace Go.Proofs.Ytihibckijdfidaa.GxStringsJoin
open Go.RowKit
open Go.Proofs.Ytihibckijdfidaa.Rowed Go.Proofs.Ytihibckijdfidaa.Turn Go.Proofs.Ytihibckijdfidaa.GoM
def P (l : List ByteArray) (sep : ByteArray) : Option ByteArray :=
  if l.length ≤ 140737488355328 ∧ (Lib.join (l.map (·.data.toList)) sep.data.toList).length ≤ 140737488355328 then some ⟨(Lib.join (l.map (·.data.toList)) sep.data.toList).toArray⟩ else none
theorem C (l : List ByteArray) (sep : ByteArray) (A : Option Addr) (c : Nat) (w : World) (M : Hid (Cells w 1 A l.length (l.map Value.string))) (N : Hid (l.length ≤ 9223372036854775807)) (Q : Hid (Room A l.length c)) {r : ByteArray} (H : Hid (P l sep = some r)) :
    Calls Try.prog 104 #[.slice A l.length c, .string sep] w (Gives (.string r) w) := by
  have h : P l sep = some r := H
  unfold P at h
  by_cases hk : l.length ≤ 140737488355328 ∧ (Lib.join (l.map (·.data.toList)) sep.data.toList).length ≤ 140737488355328
  · rw [if_pos hk] at h
    obtain rfl := Option.some.inj h
    by_cases h0 : l.length = 0
    · obtain rfl : l = [] := List.eq_nil_of_length_eq_zero h0
      refine (Try.strings_Join_none A c sep w).mono ?_
      rintro e w' ⟨rfl, rfl⟩
      exact ⟨rfl, Below.refl _ _⟩
    · obtain ⟨b, o, x, rfl, _, hx⟩ := strs_at M.out (k := 0) (by omega)
      refine (Try.strings_Join b o c l sep w (fun j x hj => ?_) (cell_lt hx) hk.1 Q.out.1 hk.2).mono ?_
      · obtain ⟨b', o', x', e, hj', hx'⟩ := strs_at M.out (k := j) (List.getElem?_eq_some_iff.1 hj).1
        simp only [Option.some.injEq, Addr.mk.injEq] at e
        obtain ⟨rfl, rfl, _⟩ := e
        obtain rfl := Option.some.inj (hj.symm.trans hj')
        exact hx'
      · rintro e w' ⟨rfl, hb⟩
        exact ⟨rfl, hb⟩
  · rw [if_neg hk] at h; simp at h
end Go.Proofs.Ytihibckijdfidaa.GxStringsJoin

namespace Go.Proofs.Ytihibckijdfidaa.GiChangeText
open Go.RowKit
open Go.Proofs.Ytihibckijdfidaa.Rowed Go.Proofs.Ytihibckijdfidaa.Turn Go.Proofs.Ytihibckijdfidaa.Aid Go.Proofs.Ytihibckijdfidaa.GoP Go.Proofs.Ytihibckijdfidaa.GoM

def l0 (change : Int) (k0 : Nat) (s : (List ByteArray)) (nx0 bk0 : (List ByteArray) → Option (ByteArray × Bool)) : Option (ByteArray × Bool) :=
 letK s fun names_4l0 =>
 Option.bind (idx [(⟨#[100, 97, 121]⟩ : ByteArray), (⟨#[122, 111, 110, 101]⟩ : ByteArray), (⟨#[103, 114, 97, 109, 115]⟩ : ByteArray), (⟨#[112, 97, 105, 100]⟩ : ByteArray)] (k0 : Int)) fun (yt_17 : ByteArray) =>
 letK (change / 2 ^ k0) fun (t_22 : Int) =>
 letK (bits .and IntKind.i64 t_22 1) fun (t_23 : Int) =>
 letK (t_23 == 1) fun (t_24 : Bool) =>
 iteK t_24
 (guardK (names_4l0.length ≤ 1099511627776) <|
 letK (names_4l0 ++ [yt_17]) fun (t_28 : (List ByteArray)) =>
 appK nx0 (t_28))
 (appK nx0 (names_4l0))

def e0  (s : (List ByteArray)) : Option (ByteArray × Bool) :=
 letK s fun names_4l0 =>
 Option.bind (GxStringsJoin.P names_4l0 (⟨#[43]⟩ : ByteArray)) fun (t_33 : ByteArray) =>
 some (t_33, true)

def P (change : Int) : Option (ByteArray × Bool) :=
 Option.bind (GiIsChange.P change) fun (t_3 : Bool) =>
 letK (!t_3) fun (t_4 : Bool) =>
 iteK t_4
 (some ((⟨#[]⟩ : ByteArray), false))
 (letK (change == 0) fun (t_8 : Bool) =>
 iteK t_8
 (some ((⟨#[110, 111, 110, 101]⟩ : ByteArray), true))
 (cntK (l0 change) (4) 0 (([] : List ByteArray)) (e0 )))

set_option maxRecDepth 100000 in
set_option maxHeartbeats 2000000 in
theorem C (change : Int)   (w : World)   {r0 : ByteArray} {r1 : Bool} (H : Hid (P change = some (r0, r1))) :
  Calls Try.prog 40 #[.int .i64 change] w (Gives (.tuple #[.string r0, .bool r1]) w) := by
 have HB := Lib.hid (Below.refl w.heap.size w); unfold P at H; obtain ⟨i0_9, hi_9, d11, i11, x10⟩ := Aid.info_parts (P := Try.prog) (T := 9) (z := .string ByteArray.empty) (s := 1) (b := 16) (by kernel_rfl)
 go_enter Try.func40, Try.ntmps40
 replace H := bind_hid H; obtain ⟨t_3, qt_3, H⟩ := H; go_wp2_with fail; go_at_call 89; refine (GiIsChange.C (change)  _    qt_3).mono ?_; rintro k11 wt_3 ⟨rfl, bt_3⟩; have d10 := Lib.hid (Below.step HB.out bt_3); clear bt_3
 cases t_3 with
 | false =>
  replace H := let_hid H; obtain ⟨t_4, ht_4, H⟩ := H; obtain rfl : t_4 = true := ht_4.symm; replace H := ite_t H; cases ret_hid H; go_wp2_with fail; go_ret2; exact ⟨rfl, d10.out⟩
 | true =>
  replace H := let_hid H; obtain ⟨t_4, ht_4, H⟩ := H; obtain rfl : t_4 = false := ht_4.symm; replace H := ite_f H; replace H := let_hid H; obtain ⟨t_8, ht_8, H⟩ := H
  cases t_8 with
  | false =>
   replace H := ite_f H; obtain ⟨k10, p10⟩ : ∃ x, wt_3.alloc (.cells #[] 9) = x := ⟨_, rfl⟩; have l10 : Below wt_3.heap.size wt_3 k10 := (by rw [← p10]; exact (Below.refl _ _).alloc (Nat.le_refl _) _); have c11 : Hid (k10.ownsRow w.heap.size 9 1 (.slice (some ⟨wt_3.heap.size, 0, none⟩) 0 0) 0 []) := Lib.hid (by rw [← p10]; exact own_empty d10.out.size); have a11 := Lib.hid (Below.step d10.out l10); clear l10; go_wp2_with fail; go_loopg [14, 4] (4) (fun m_ v14_ v4_ wr => ∃ (k0 : Nat) (b10 : (List ByteArray)) (c10 : Option Addr) (e10 : Nat), k0 + m_ = 4 ∧ v14_ = .int .i64 (k0 : Int) ∧ v4_ = .slice c10 b10.length e10 ∧ Hid (cntK (l0 change) m_ k0 (b10) (e0 ) = some (r0, r1)) ∧ Hid (Below w.heap.size w wr) ∧ Hid (wr.ownsRow w.heap.size 9 1 (.slice c10 b10.length e10) b10.length (b10.map Value.string)))
   case atStart => exact ⟨0, _, _, _, by omega, rfl, rfl, H, a11, c11⟩
   case round =>
    obtain ⟨k0, b10, c10, e10, hkm0, rfl, rfl, H, h10, a10⟩ := hrel; rename World => wr0
    cases gk with
    | zero =>
     obtain rfl : k0 = 4 := (by omega); have hc0 : decide (((4 : Nat) : Int) < ((4 : Nat) : Int)) = false := (by simp); replace H := cnt_zero H; unfold e0 at H; replace H := let_hid H; obtain ⟨_, rfl, H⟩ := H; replace H := bind_hid H; obtain ⟨t_33, h11, H⟩ := H; go_wp2_with fail; go_at_call 104; refine (GxStringsJoin.C (b10) ((⟨#[43]⟩ : ByteArray)) c10 e10 _   (Lib.hid (own_cells a10.out)) (Lib.hid (own_max a10.out)) (Lib.hid (own_room a10.out)) h11).mono ?_; rintro j11 m11 ⟨rfl, i10⟩; have g11 := Lib.hid (Below.step h10.out i10); replace a10 := Lib.hid (own_below a10.out i10); clear i10; cases ret_hid H; go_wp2_with fail; go_ret2; exact ⟨rfl, g11.out⟩
    | succ m0 =>
     have hlt0 : k0 < 4 := (by omega); have hc0 : decide ((k0 : Int) < ((4 : Nat) : Int)) = true := (by simp; omega); replace H := cnt_succ H; have hd0 : decide ((k0 : Int) < 4) = true := (by simp; omega); unfold l0 at H; replace H := let_hid H; obtain ⟨_, rfl, H⟩ := H; replace H := idx_hid H; obtain ⟨v10, j10, b11, e11, o10, H⟩ := H; obtain rfl : k0 = v10 := (by omega); clear b11
     have s11 : ∀ w, (Instr.index 134 (.agg #[.string (⟨#[100, 97, 121]⟩ : ByteArray), .string (⟨#[122, 111, 110, 101]⟩ : ByteArray), .string (⟨#[103, 114, 97, 109, 115]⟩ : ByteArray), .string (⟨#[112, 97, 105, 100]⟩ : ByteArray)]) (.int .i64 (k0 : Int))).run Try.prog w = .ok (.string j10) w := by
      intro w; have hl := e11; have hg := o10.out; clear o10 H
      rcases k0 with _ | _ | _ | _ | _
      ·
       obtain rfl := Option.some.inj hg; rfl
      ·
       obtain rfl := Option.some.inj hg; rfl
      ·
       obtain rfl := Option.some.inj hg; rfl
      ·
       obtain rfl := Option.some.inj hg; rfl
      ·
       simp at hl; omega
     replace H := let_hid H; obtain ⟨t_22, o11, H⟩ := H; replace H := let_hid H; obtain ⟨t_23, q11, H⟩ := H; replace H := let_hid H; obtain ⟨t_24, n11, H⟩ := H
     cases t_24 with
     | false =>
      replace H := ite_f H; replace H := app_hid H; go_wp2_with fail
      go_roundg m0
      case measure => omega
      case rel => exact ⟨k0 + 1, _, _, _, by omega, by go_num, rfl, H, h10, a10⟩
     | true =>
      replace H := ite_t H; obtain ⟨z10, r10⟩ : ∃ x, wr0.alloc (.cells #[.string j10] 9) = x := ⟨_, rfl⟩; have f10 : Below wr0.heap.size wr0 z10 := (by rw [← r10]; exact (Below.refl _ _).alloc (Nat.le_refl _) _); have q10 := Lib.hid (Below.step h10.out f10); replace a10 := Lib.hid (own_below a10.out f10); clear f10; replace H := guard_hid H; obtain ⟨r11, H⟩ := H; replace H := let_hid H; obtain ⟨t_28, s10, H⟩ := H; have f11 := Lib.hid s10; clear s10; have g10 := q10.out.size; go_wp2_with (at_builtin; refine wpList_append_own_at _ rfl _ _ 60 rfl w.heap.size 9 i0_9 (.string ByteArray.empty) 1 16 Try.underlying60 hi_9 d11 i11 x10 rfl (by decide) _ _ _ rfl a10.out ⟨wr0.heap.size, 0, none⟩ 1 1 [.string j10] rfl rfl (news_new r10) (one_cells rfl) (by unfold maxLen; omega) (by omega) g10 ?_; intro vt_28 wt_28 ot_28 gt_28 zt_28 yt_28; clear zt_28; obtain ⟨p11, l11, rfl, m10⟩ := own_push f11.out (by simp) rfl ot_28; have y10 := Lib.hid m10; have t10 := Lib.hid yt_28; have n10 := Lib.hid gt_28; clear ot_28 gt_28 m10 yt_28; refine stop_in ?_); refine stop_out ?_; have w10 := Lib.hid (q10.out.grown n10.out g10 (fun q hq => (a10.out.lt q hq).1)); clear g10; clear a10 t10 n10; replace H := app_hid H; go_wp2_with fail
      go_roundg m0
      case measure => omega
      case rel => exact ⟨k0 + 1, _, _, _, by omega, by go_num, rfl, H, w10, y10⟩
  | true =>
   replace H := ite_t H; cases ret_hid H; go_wp2_with fail; go_ret2; exact ⟨rfl, d10.out⟩
end Go.Proofs.Ytihibckijdfidaa.GiChangeText

namespace Go.Proofs.Ytihibckijdfidaa.GlFnExactChangeText
open Go.RowKit
open Go.Proofs.Ytihibckijdfidaa.Rowed Go.Proofs.Ytihibckijdfidaa.Turn Go.Proofs.Ytihibckijdfidaa.Aid Go.Proofs.Ytihibckijdfidaa.GoP Go.Proofs.Ytihibckijdfidaa.GoM

def P (aChange : Int) : Option (Bool) :=
 bind2 (GsChangeText.P aChange) fun (t_2a : ByteArray) (t_2b : Bool) =>
 bind2 (GiChangeText.P aChange) fun (t_9a : ByteArray) (t_9b : Bool) =>
 letK (!(t_9a.toList == t_2a.toList)) fun (t_17 : Bool) =>
 joinK (fun (t_22 : Bool) =>
 iteK t_22
 (some false)
 (some true)) fun jt_22 => iteK t_17 (appK jt_22 true) (letK (!(t_9b == t_2b)) fun (t_21 : Bool) =>
 appK jt_22 t_21)

set_option maxRecDepth 100000 in
set_option maxHeartbeats 2000000 in
theorem C (aChange : Int)   (w : World)   {r : Bool} (H : Hid (P aChange = some r)) :
  Calls Try.prog 10 #[.int .i64 aChange] w (Gives (.bool r) w) := by
 have HB := Lib.hid (Below.refl w.heap.size w); unfold P at H
 go_enter Try.func10, Try.ntmps10
 replace H := bind2_hid H; obtain ⟨t_2a, t_2b, qt_2, H⟩ := H; go_wp2_with fail; go_at_call 39; refine (GsChangeText.C (aChange)  _    qt_2).mono ?_; rintro e10 wt_2 ⟨rfl, bt_2⟩; have b10 := Lib.hid (Below.step HB.out bt_2); clear bt_2; replace H := bind2_hid H; obtain ⟨t_9a, t_9b, qt_9, H⟩ := H; go_wp2_with fail; go_at_call 40; refine (GiChangeText.C (aChange)  _    qt_9).mono ?_; rintro d10 wt_9 ⟨rfl, bt_9⟩; have a10 := Lib.hid (Below.step b10.out bt_9); clear bt_9; replace H := let_hid H; obtain ⟨t_17, c10, H⟩ := H; replace H := join_hid H
 cases t_17 with
 | false =>
  replace H := ite_f H; replace H := let_hid H; obtain ⟨t_21, f10, H⟩ := H; replace H := app_hid H
  cases t_21 with
  | false =>
   replace H := ite_f H; obtain rfl := ret_hid H; go_wp2_with fail; go_ret; exact ⟨rfl, a10.out⟩
  | true =>
   replace H := ite_t H; obtain rfl := ret_hid H; go_wp2_with fail; go_ret; exact ⟨rfl, a10.out⟩
 | true =>
  replace H := ite_t H; replace H := app_hid H; replace H := ite_t H; obtain rfl := ret_hid H; go_wp2_with fail; go_ret; exact ⟨rfl, a10.out⟩
end Go.Proofs.Ytihibckijdfidaa.GlFnExactChangeText

namespace Go.Proofs.Ytihibckijdfidaa.Q12Text
open Go.RowKit
open Go.Proofs.Ytihibckijdfidaa.GoP Go.Proofs.Ytihibckijdfidaa.PlainStamp Go.Proofs.Ytihibckijdfidaa.QBase Go.Proofs.Ytihibckijdfidaa.Q12Bits Go.Proofs.Ytihibckijdfidaa.QLoop

def ctOk (c : Int) : Bool := match GiChangeText.P c, GsChangeText.P c with
  | some (a, b), some (a2, b2) => a.data.toList == a2.data.toList && b == b2
  | _, _ => false
theorem ctOk_yes : (List.range 16).all (fun n => ctOk (n : Int)) = true := by kernel_rfl
theorem ctext_same (c : Int) : ∃ a b, GiChangeText.P c = some (a, b) ∧ GsChangeText.P c = some (a, b) := by
  cases hb : inB c 0 15 with
  | false =>
    refine ⟨⟨#[]⟩, false, ?_, ?_⟩
    · simp only [GiChangeText.P, GiIsChange.P, within_eq, hb, Option.bind_some, letK, iteK_if]; rfl
    · simp only [GsChangeText.P, l1In_eq, hb, Option.bind_some, letK, iteK_if]; rfl
  | true =>
    have h := ch16 ctOk_yes (inB_of hb)
    unfold ctOk at h
    cases h1 : GiChangeText.P c with
    | none => rw [h1] at h; simp at h
    | some p =>
      cases h2 : GsChangeText.P c with
      | none => rw [h1, h2] at h; simp at h
      | some q =>
        obtain ⟨⟨⟨a⟩⟩, b⟩ := p
        obtain ⟨⟨⟨a2⟩⟩, b2⟩ := q
        rw [h1, h2] at h
        simp only [Bool.and_eq_true, beq_iff_eq] at h
        obtain ⟨rfl, rfl⟩ := h
        exact ⟨_, _, rfl, rfl⟩
end Go.Proofs.Ytihibckijdfidaa.Q12Text

namespace Go.Proofs.Ytihibckijdfidaa.QL12Text
open Go.RowKit
open Go.Proofs.Ytihibckijdfidaa.GoP Go.Proofs.Ytihibckijdfidaa.PlainStamp Go.Proofs.Ytihibckijdfidaa.QBase Go.Proofs.Ytihibckijdfidaa.Q12Text Go.Proofs.Ytihibckijdfidaa.QLoop

theorem law_text (c : Int) : GlFnExactChangeText.P c = some true := by
  obtain ⟨a, b, e1, e2⟩ := ctext_same c
  simp [GlFnExactChangeText.P, e1, e2, bind2, letK, joinK, appK, iteK_if]
end Go.Proofs.Ytihibckijdfidaa.QL12Text

