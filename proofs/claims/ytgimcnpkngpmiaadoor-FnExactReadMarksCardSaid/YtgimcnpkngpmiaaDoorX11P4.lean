/- Texts on which the proofs of several laws stand, one behind the other (4 of 9). No condition of their own. -/
import Derived.Test.YtgimcnpkngpmiaaDoorChecked
import Derived.Test.YtgimcnpkngpmiaaDoorX11P1
import Derived.WalkKit
import Derived.WalkSpells
import Derived.WalkLawsBesides
import Derived.BigQuiet
import Derived.OwnWalk
import Derived.Deep.LoopGhost
import Derived.Deep.QuietTactic
import Derived.IntWalk
import Derived.Lib.QuietBelow
import Derived.Test.YtgimcnpkngpmiaaDoorX11P3
import Derived.Test.YtgimcnpkngpmiaaDoorX11P2
import Derived.Lib.ConvBytes
import Derived.Laws.BytesString
import Derived.Laws.IdiomStrings
import Derived.Laws.BytesArg
/- loop.example/g01062/impl.isLetter as a plain function, and the contract of the program's: where the plain one has an answer, the program has it. Conditions: slices read as lists. -/
namespace Go.Proofs.YtgimcnpkngpmiaaDoor.GiIsLetter
set_option linter.unusedVariables false
set_option linter.unusedSimpArgs false
open Go.RowKit
open Go.Proofs.YtgimcnpkngpmiaaDoor.Rowed Go.Proofs.YtgimcnpkngpmiaaDoor.Turn Go.Proofs.YtgimcnpkngpmiaaDoor.Aid Go.Proofs.YtgimcnpkngpmiaaDoor.GoP Go.Proofs.YtgimcnpkngpmiaaDoor.GoM

def P (c : Int) : Option (Bool) :=
  letK (decide (97 ≤ c)) fun (t_2 : Bool) =>
  joinK (fun (t_6 : Bool) =>
  some t_6) fun jt_6 => iteK t_2 (letK (decide (c ≤ 122)) fun (t_5 : Bool) =>
  appK jt_6 t_5) (appK jt_6 false)

set_option maxRecDepth 100000 in
set_option maxHeartbeats 2000000 in
theorem C (c : Int)   (w : World)   {r : Bool} (H : Hid (P c = some r)) :
    Calls Tryd.prog 92 #[.int .u8 c] w (Gives (.bool r) w) := by
  have HB := Lib.hid (Below.refl w.heap.size w)
  unfold P at H
  go_enter Tryd.func92, Tryd.ntmps92
  replace H := let_hid H
  obtain ⟨t_2, ht_2, H⟩ := H
  replace H := join_hid H
  cases t_2 with
  | false =>
    replace H := ite_f H
    replace H := app_hid H
    obtain rfl := ret_hid H
    go_wp2_with fail
    go_ret
    exact ⟨rfl, HB.out⟩
  | true =>
    replace H := ite_t H
    replace H := let_hid H
    obtain ⟨t_5, ht_5, H⟩ := H
    replace H := app_hid H
    obtain rfl := ret_hid H
    go_wp2_with fail
    go_ret
    exact ⟨rfl, HB.out⟩

set_option maxRecDepth 100000 in
set_option maxHeartbeats 2000000 in
theorem C0 (c : Int)   (w : World)   {r : Bool} (H : Hid (P c = some r)) :
    Calls Tryd.prog 92 #[.int .u8 c] w (fun e w'' => e = .returned (.bool r) ∧ w'' = w) := by
  have HB := Lib.hid (Below.refl w.heap.size w)
  unfold P at H
  go_enter Tryd.func92, Tryd.ntmps92
  replace H := let_hid H
  obtain ⟨t_2, ht_2, H⟩ := H
  replace H := join_hid H
  cases t_2 with
  | false =>
    replace H := ite_f H
    replace H := app_hid H
    obtain rfl := ret_hid H
    go_wp2_with fail
    go_ret
    exact ⟨rfl, rfl⟩
  | true =>
    replace H := ite_t H
    replace H := let_hid H
    obtain ⟨t_5, ht_5, H⟩ := H
    replace H := app_hid H
    obtain rfl := ret_hid H
    go_wp2_with fail
    go_ret
    exact ⟨rfl, rfl⟩
end Go.Proofs.YtgimcnpkngpmiaaDoor.GiIsLetter

/- loop.example/g01062/impl.isWord as a plain function, and the contract of the program's: where the plain one has an answer, the program has it. Conditions: slices read as lists. -/
namespace Go.Proofs.YtgimcnpkngpmiaaDoor.GiIsWord
set_option linter.unusedVariables false
set_option linter.unusedSimpArgs false
open Go.RowKit
open Go.Proofs.YtgimcnpkngpmiaaDoor.Rowed Go.Proofs.YtgimcnpkngpmiaaDoor.Turn Go.Proofs.YtgimcnpkngpmiaaDoor.Aid Go.Proofs.YtgimcnpkngpmiaaDoor.GoP Go.Proofs.YtgimcnpkngpmiaaDoor.GoM

def l0 (s_0 : ByteArray) (k0 : Nat) (s : Unit) (nx0 bk0 : Unit → Option (Bool)) : Option (Bool) :=
  
  Option.bind (idx s_0.toList (k0 : Int)) fun (yt_14 : UInt8) =>
  letK ((yt_14.toNat : Int)) fun (t_14 : Int) =>
  Option.bind (Go.Proofs.YtgimcnpkngpmiaaDoor.GiIsLetter.P t_14) fun (t_15 : Bool) =>
  letK (!t_15) fun (t_16 : Bool) =>
  iteK t_16
  (some false)
  (appK nx0 ())

def e0  (s : Unit) : Option (Bool) :=
  
  some true

def P (s_0 : ByteArray) : Option (Bool) :=
  Option.bind (Go.Proofs.YtgimcnpkngpmiaaDoor.GiWithin.P (s_0.size : Int) 1 10) fun (t_3 : Bool) =>
  letK (!t_3) fun (t_4 : Bool) =>
  iteK t_4
  (some false)
  (guardK (s_0.size ≤ 9223372036854775807) <|
  cntK (l0 s_0) (s_0.size) 0 () (e0 ))

set_option maxRecDepth 100000 in
set_option maxHeartbeats 2000000 in
theorem C (s_0 : ByteArray)   (w : World)   {r : Bool} (H : Hid (P s_0 = some r)) :
    Calls Tryd.prog 78 #[.string s_0] w (Gives (.bool r) w) := by
  have HB := Lib.hid (Below.refl w.heap.size w)
  unfold P at H
  go_enter Tryd.func78, Tryd.ntmps78
  replace H := bind_hid H
  obtain ⟨t_3, qt_3, H⟩ := H
  go_wp2_with fail
  go_at_call 64
  refine (Go.Proofs.YtgimcnpkngpmiaaDoor.GiWithin.C ((s_0.size : Int)) (1) (10)  _    qt_3).mono ?_
  rintro e_t_3 wt_3 ⟨rfl, bt_3⟩
  have HBwt_3 := Lib.hid (Below.step HB.out bt_3)
  clear bt_3
  cases t_3 with
  | false =>
    replace H := let_hid H
    obtain ⟨t_4, ht_4, H⟩ := H
    obtain rfl : t_4 = true := ht_4.symm
    replace H := ite_t H
    obtain rfl := ret_hid H
    go_wp2_with fail
    go_ret
    exact ⟨rfl, HBwt_3.out⟩
  | true =>
    replace H := let_hid H
    obtain ⟨t_4, ht_4, H⟩ := H
    obtain rfl : t_4 = false := ht_4.symm
    replace H := ite_f H
    replace H := guard_hid H
    obtain ⟨hg0, H⟩ := H
    go_wp2_with fail
    go_loopg [10] (s_0.size) (fun m_ v10_ wr => ∃ (k0 : Nat) , k0 + m_ = s_0.size ∧ v10_ = .int .i64 (k0 : Int) ∧ Hid (cntK (l0 s_0) m_ k0 () (e0 ) = some r) ∧ Hid (Below w.heap.size w wr))
    case atStart => exact ⟨0, by omega, rfl, H, HBwt_3⟩
    case round =>
      obtain ⟨k0, hkm0, rfl, H, HBwr0⟩ := hrel
      rename World => wr0
      cases gk with
      | zero =>
        obtain rfl : k0 = s_0.size := by omega
        have hc0 : decide (((s_0.size : Nat) : Int) < ((s_0.size : Nat) : Int)) = false := by simp
        replace H := cnt_zero H
        unfold e0 at H
        obtain rfl := ret_hid H
        go_wp2_with fail
        go_ret
        exact ⟨rfl, HBwr0.out⟩
      | succ m0 =>
        have hlt0 : k0 < s_0.size := by omega
        have hc0 : decide ((k0 : Int) < ((s_0.size : Nat) : Int)) = true := by simp; omega
        replace H := cnt_succ H
        unfold l0 at H
        replace H := idx_hid H
        obtain ⟨nt_14, yt_14, et_14, lt_14, gt_14, H⟩ := H
        obtain rfl : k0 = nt_14 := by omega
        clear et_14
        have rt_14 := byte_rule lt_14 gt_14.out
        have b0t_14 : (0 : Int) ≤ (k0 : Int) := by omega
        have b1t_14 : (k0 : Int) < (s_0.size : Int) := by have := size_list s_0; omega
        have b2t_14 : ((k0 : Int)).toNat = k0 := by omega
        have b3t_14 : k0 < s_0.size := by have := size_list s_0; omega
        replace H := let_hid H
        obtain ⟨t_14, ht_14, H⟩ := H
        replace H := bind_hid H
        obtain ⟨t_15, qt_15, H⟩ := H
        go_wp2_with fail
        go_at_call 92
        refine (Go.Proofs.YtgimcnpkngpmiaaDoor.GiIsLetter.C (t_14)  _    qt_15).mono ?_
        rintro e_t_15 wt_15 ⟨rfl, bt_15⟩
        have HBwt_15 := Lib.hid (Below.step HBwr0.out bt_15)
        clear bt_15
        cases t_15 with
        | false =>
          replace H := let_hid H
          obtain ⟨t_16, ht_16, H⟩ := H
          obtain rfl : t_16 = true := ht_16.symm
          replace H := ite_t H
          obtain rfl := ret_hid H
          go_wp2_with fail
          go_ret
          exact ⟨rfl, HBwt_15.out⟩
        | true =>
          replace H := let_hid H
          obtain ⟨t_16, ht_16, H⟩ := H
          obtain rfl : t_16 = false := ht_16.symm
          replace H := ite_f H
          replace H := app_hid H
          go_wp2_with fail
          go_roundg m0
          case measure => omega
          case rel => exact ⟨k0 + 1, by omega, by go_num, H, HBwt_15⟩
end Go.Proofs.YtgimcnpkngpmiaaDoor.GiIsWord

/- loop.example/g01062/impl.isDay as a plain function, and the contract of the program's: where the plain one has an answer, the program has it. Conditions: slices read as lists. -/
namespace Go.Proofs.YtgimcnpkngpmiaaDoor.GiIsDay
set_option linter.unusedVariables false
set_option linter.unusedSimpArgs false
open Go.RowKit
open Go.Proofs.YtgimcnpkngpmiaaDoor.Rowed Go.Proofs.YtgimcnpkngpmiaaDoor.Turn Go.Proofs.YtgimcnpkngpmiaaDoor.Aid Go.Proofs.YtgimcnpkngpmiaaDoor.GoP Go.Proofs.YtgimcnpkngpmiaaDoor.GoM

def P (day : Int) : Option (Bool) :=
  Option.bind (Go.Proofs.YtgimcnpkngpmiaaDoor.GiWithin.P day 0 4000) fun (t_2 : Bool) =>
  some t_2

set_option maxRecDepth 100000 in
set_option maxHeartbeats 2000000 in
theorem C (day : Int)   (w : World)   {r : Bool} (H : Hid (P day = some r)) :
    Calls Tryd.prog 47 #[.int .i64 day] w (Gives (.bool r) w) := by
  have HB := Lib.hid (Below.refl w.heap.size w)
  unfold P at H
  go_enter Tryd.func47, Tryd.ntmps47
  replace H := bind_hid H
  obtain ⟨t_2, qt_2, H⟩ := H
  go_wp2_with fail
  go_at_call 64
  refine (Go.Proofs.YtgimcnpkngpmiaaDoor.GiWithin.C (day) (0) (4000)  _    qt_2).mono ?_
  rintro e_t_2 wt_2 ⟨rfl, bt_2⟩
  have HBwt_2 := Lib.hid (Below.step HB.out bt_2)
  clear bt_2
  obtain rfl := ret_hid H
  go_wp2_with fail
  go_ret
  exact ⟨rfl, HBwt_2.out⟩
end Go.Proofs.YtgimcnpkngpmiaaDoor.GiIsDay

/- strings.Count at one letter as a plain function; the contract of the program's. No condition. -/
namespace Go.Proofs.YtgimcnpkngpmiaaDoor.GxStringsCount
set_option linter.unusedVariables false
open Go.RowKit
open Go.Proofs.YtgimcnpkngpmiaaDoor.Turn
def P (s c : ByteArray) : Option Int := match c.data.toList with
  | [x] => some (Lib.countByte s.data.toList x : Int)
  | _ => none
theorem C (s c : ByteArray) (w : World) {r : Int} (H : Hid (P s c = some r)) : Calls Tryd.prog 93 #[.string s, .string c] w (Gives (.int .i64 r) w) := by
  have h : P s c = some r := H
  unfold P at h
  split at h
  · rename_i x hx
    obtain rfl := Option.some.inj h
    have hc : c = ⟨#[x]⟩ := by
      obtain ⟨⟨l⟩⟩ := c
      simp only at hx
      subst hx; rfl
    rw [hc]
    refine (Tryd.strings_Count_one s x w).mono ?_
    rintro e w' ⟨rfl, rfl⟩
    exact ⟨rfl, Below.refl _ _⟩
  · simp at h
end Go.Proofs.YtgimcnpkngpmiaaDoor.GxStringsCount

/- loop.example/g01062/impl.isLoss as a plain function, and the contract of the program's: where the plain one has an answer, the program has it. Conditions: slices read as lists. -/
namespace Go.Proofs.YtgimcnpkngpmiaaDoor.GiIsLoss
set_option linter.unusedVariables false
set_option linter.unusedSimpArgs false
open Go.RowKit
open Go.Proofs.YtgimcnpkngpmiaaDoor.Rowed Go.Proofs.YtgimcnpkngpmiaaDoor.Turn Go.Proofs.YtgimcnpkngpmiaaDoor.Aid Go.Proofs.YtgimcnpkngpmiaaDoor.GoP Go.Proofs.YtgimcnpkngpmiaaDoor.GoM

def P (lost : ByteArray) (town : ByteArray) : Option (Bool) :=
  Option.bind (Go.Proofs.YtgimcnpkngpmiaaDoor.GxStringsCount.P lost (⟨#[46]⟩ : ByteArray)) fun (t_2 : Int) =>
  letK ((lost.size : Int) == (town.size : Int)) fun (t_8 : Bool) =>
  joinK (fun (t_12 : Bool) =>
  joinK (fun (t_21 : Bool) =>
  some t_21) fun jt_21 => iteK t_12 (Option.bind (Go.Proofs.YtgimcnpkngpmiaaDoor.GxStringsCount.P lost (⟨#[120]⟩ : ByteArray)) fun (t_16 : Int) =>
  letK (IntKind.i64.wrap (t_2 + t_16)) fun (t_17 : Int) =>
  letK (t_17 == (lost.size : Int)) fun (t_20 : Bool) =>
  appK jt_21 t_20) (appK jt_21 false)) fun jt_12 => iteK t_8 (letK (decide (0 < t_2)) fun (t_11 : Bool) =>
  appK jt_12 t_11) (appK jt_12 false)

set_option maxRecDepth 100000 in
set_option maxHeartbeats 2000000 in
theorem C (lost : ByteArray) (town : ByteArray)   (w : World)   {r : Bool} (H : Hid (P lost town = some r)) :
    Calls Tryd.prog 79 #[.string lost, .string town] w (Gives (.bool r) w) := by
  have HB := Lib.hid (Below.refl w.heap.size w)
  unfold P at H
  go_enter Tryd.func79, Tryd.ntmps79
  replace H := bind_hid H
  obtain ⟨t_2, qt_2, H⟩ := H
  go_wp2_with fail
  go_at_call 93
  refine (Go.Proofs.YtgimcnpkngpmiaaDoor.GxStringsCount.C (lost) ((⟨#[46]⟩ : ByteArray))  _    qt_2).mono ?_
  rintro e_t_2 wt_2 ⟨rfl, bt_2⟩
  have HBwt_2 := Lib.hid (Below.step HB.out bt_2)
  clear bt_2
  replace H := let_hid H
  obtain ⟨t_8, ht_8, H⟩ := H
  replace H := join_hid H
  cases t_8 with
  | false =>
    have nht_8 : ¬ (lost.size = town.size) := by have := ne_of_beq_false ht_8; omega
    replace H := ite_f H
    replace H := app_hid H
    replace H := join_hid H
    replace H := ite_f H
    replace H := app_hid H
    obtain rfl := ret_hid H
    go_wp2_with fail
    go_ret
    exact ⟨rfl, HBwt_2.out⟩
  | true =>
    have Hht_8 : Hid (lost.size = town.size) := Lib.hid (by have := eq_of_beq ht_8; omega)
    have nht_8 : (lost.size == town.size) = true := beq_iff_eq.2 Hht_8.out
    replace H := ite_t H
    replace H := let_hid H
    obtain ⟨t_11, ht_11, H⟩ := H
    replace H := app_hid H
    replace H := join_hid H
    cases t_11 with
    | false =>
      replace H := ite_f H
      replace H := app_hid H
      obtain rfl := ret_hid H
      go_wp2_with fail
      go_ret
      exact ⟨rfl, HBwt_2.out⟩
    | true =>
      replace H := ite_t H
      replace H := bind_hid H
      obtain ⟨t_16, qt_16, H⟩ := H
      go_wp2_with fail
      go_at_call 93
      refine (Go.Proofs.YtgimcnpkngpmiaaDoor.GxStringsCount.C (lost) ((⟨#[120]⟩ : ByteArray))  _    qt_16).mono ?_
      rintro e_t_16 wt_16 ⟨rfl, bt_16⟩
      have HBwt_16 := Lib.hid (Below.step HBwt_2.out bt_16)
      clear bt_16
      replace H := let_hid H
      obtain ⟨t_17, ht_17, H⟩ := H
      replace H := let_hid H
      obtain ⟨t_20, ht_20, H⟩ := H
      replace H := app_hid H
      obtain rfl := ret_hid H
      go_wp2_with fail
      go_ret
      exact ⟨rfl, HBwt_16.out⟩
end Go.Proofs.YtgimcnpkngpmiaaDoor.GiIsLoss

/- loop.example/g01062/impl.IsPostmark as a plain function, and the contract of the program's: where the plain one has an answer, the program has it. Conditions: slices read as lists. -/
namespace Go.Proofs.YtgimcnpkngpmiaaDoor.GiIsPostmark
set_option linter.unusedVariables false
set_option linter.unusedSimpArgs false
open Go.RowKit
open Go.Proofs.YtgimcnpkngpmiaaDoor.Rowed Go.Proofs.YtgimcnpkngpmiaaDoor.Turn Go.Proofs.YtgimcnpkngpmiaaDoor.Aid Go.Proofs.YtgimcnpkngpmiaaDoor.GoP Go.Proofs.YtgimcnpkngpmiaaDoor.GoM

def P (p : Go.Proofs.YtgimcnpkngpmiaaDoor.PPostmark.Postmark) : Option (Bool) :=
  unPostmark p fun (p_id : Int) (p_town : ByteArray) (p_kind_ : Int) (p_first : Int) (p_last : Int) (p_lost : ByteArray) =>
  Option.bind (Go.Proofs.YtgimcnpkngpmiaaDoor.GiWithin.P p_id 1 999) fun (t_4 : Bool) =>
  joinK (fun (t_9 : Bool) =>
  joinK (fun (t_14 : Bool) =>
  joinK (fun (t_19 : Bool) =>
  joinK (fun (t_24 : Bool) =>
  joinK (fun (t_31 : Bool) =>
  joinK (fun (t_38 : Bool) =>
  some t_38) fun jt_38 => iteK t_31 (Option.bind (Go.Proofs.YtgimcnpkngpmiaaDoor.GiIsLoss.P p_lost p_town) fun (t_37 : Bool) =>
  appK jt_38 t_37) (appK jt_38 false)) fun jt_31 => iteK t_24 (letK (decide (p_first ≤ p_last)) fun (t_30 : Bool) =>
  appK jt_31 t_30) (appK jt_31 false)) fun jt_24 => iteK t_19 (Option.bind (Go.Proofs.YtgimcnpkngpmiaaDoor.GiIsDay.P p_last) fun (t_23 : Bool) =>
  appK jt_24 t_23) (appK jt_24 false)) fun jt_19 => iteK t_14 (Option.bind (Go.Proofs.YtgimcnpkngpmiaaDoor.GiIsDay.P p_first) fun (t_18 : Bool) =>
  appK jt_19 t_18) (appK jt_19 false)) fun jt_14 => iteK t_9 (Option.bind (Go.Proofs.YtgimcnpkngpmiaaDoor.GiWithin.P p_kind_ 1 5) fun (t_13 : Bool) =>
  appK jt_14 t_13) (appK jt_14 false)) fun jt_9 => iteK t_4 (Option.bind (Go.Proofs.YtgimcnpkngpmiaaDoor.GiIsWord.P p_town) fun (t_8 : Bool) =>
  appK jt_9 t_8) (appK jt_9 false)

set_option maxRecDepth 100000 in
set_option maxHeartbeats 2000000 in
theorem C (p : Go.Proofs.YtgimcnpkngpmiaaDoor.PPostmark.Postmark)   (w : World)   {r : Bool} (H : Hid (P p = some r)) :
    Calls Tryd.prog 36 #[p.val] w (Gives (.bool r) w) := by
  have HB := Lib.hid (Below.refl w.heap.size w)
  unfold P at H
  obtain ⟨p_id, p_town, p_kind_, p_first, p_last, p_lost⟩ := p
  replace H := unPostmark_hid H
  unfold Go.Proofs.YtgimcnpkngpmiaaDoor.PPostmark.Postmark.val
  go_enter Tryd.func36, Tryd.ntmps36
  obtain ⟨w_p_0, hw_p_0⟩ : ∃ x, w.alloc (.cells #[.int .i64 p_id, .string p_town, .int .i64 p_kind_, .int .i64 p_first, .int .i64 p_last, .string p_lost] 39) = x := ⟨_, rfl⟩
  have bw_p_0 : Below w.heap.size w w_p_0 := by rw [← hw_p_0]; exact (Below.refl _ _).alloc (Nat.le_refl _) _
  have HBw_p_0 := Lib.hid (Below.step HB.out bw_p_0)
  clear bw_p_0
  have kp_0_0 : w_p_0.cell? ⟨w.heap.size, 0, none⟩ = some (.int .i64 p_id) := by rw [← hw_p_0]; exact box_new _ _ _ 0 _ rfl
  have kp_0_1 : w_p_0.cell? ⟨w.heap.size, 1, none⟩ = some (.string p_town) := by rw [← hw_p_0]; exact box_new _ _ _ 1 _ rfl
  have kp_0_2 : w_p_0.cell? ⟨w.heap.size, 2, none⟩ = some (.int .i64 p_kind_) := by rw [← hw_p_0]; exact box_new _ _ _ 2 _ rfl
  have kp_0_3 : w_p_0.cell? ⟨w.heap.size, 3, none⟩ = some (.int .i64 p_first) := by rw [← hw_p_0]; exact box_new _ _ _ 3 _ rfl
  have kp_0_4 : w_p_0.cell? ⟨w.heap.size, 4, none⟩ = some (.int .i64 p_last) := by rw [← hw_p_0]; exact box_new _ _ _ 4 _ rfl
  have kp_0_5 : w_p_0.cell? ⟨w.heap.size, 5, none⟩ = some (.string p_lost) := by rw [← hw_p_0]; exact box_new _ _ _ 5 _ rfl
  replace H := bind_hid H
  obtain ⟨t_4, qt_4, H⟩ := H
  go_wp2_with fail
  go_at_call 64
  refine (Go.Proofs.YtgimcnpkngpmiaaDoor.GiWithin.C (p_id) (1) (999)  _    qt_4).mono ?_
  rintro e_t_4 wt_4 ⟨rfl, bt_4⟩
  have HBwt_4 := Lib.hid (Below.step HBw_p_0.out bt_4)
  replace kp_0_0 := cell_below bt_4 kp_0_0
  replace kp_0_1 := cell_below bt_4 kp_0_1
  replace kp_0_2 := cell_below bt_4 kp_0_2
  replace kp_0_3 := cell_below bt_4 kp_0_3
  replace kp_0_4 := cell_below bt_4 kp_0_4
  replace kp_0_5 := cell_below bt_4 kp_0_5
  clear bt_4
  replace H := join_hid H
  cases t_4 with
  | false =>
    replace H := ite_f H
    replace H := app_hid H
    replace H := join_hid H
    replace H := ite_f H
    replace H := app_hid H
    replace H := join_hid H
    replace H := ite_f H
    replace H := app_hid H
    replace H := join_hid H
    replace H := ite_f H
    replace H := app_hid H
    replace H := join_hid H
    replace H := ite_f H
    replace H := app_hid H
    replace H := join_hid H
    replace H := ite_f H
    replace H := app_hid H
    obtain rfl := ret_hid H
    go_wp2_with fail
    go_ret
    exact ⟨rfl, HBwt_4.out⟩
  | true =>
    replace H := ite_t H
    replace H := bind_hid H
    obtain ⟨t_8, qt_8, H⟩ := H
    go_wp2_with fail
    go_at_call 78
    refine (Go.Proofs.YtgimcnpkngpmiaaDoor.GiIsWord.C (p_town)  _    qt_8).mono ?_
    rintro e_t_8 wt_8 ⟨rfl, bt_8⟩
    have HBwt_8 := Lib.hid (Below.step HBwt_4.out bt_8)
    replace kp_0_0 := cell_below bt_8 kp_0_0
    replace kp_0_1 := cell_below bt_8 kp_0_1
    replace kp_0_2 := cell_below bt_8 kp_0_2
    replace kp_0_3 := cell_below bt_8 kp_0_3
    replace kp_0_4 := cell_below bt_8 kp_0_4
    replace kp_0_5 := cell_below bt_8 kp_0_5
    clear bt_8
    replace H := app_hid H
    replace H := join_hid H
    cases t_8 with
    | false =>
      replace H := ite_f H
      replace H := app_hid H
      replace H := join_hid H
      replace H := ite_f H
      replace H := app_hid H
      replace H := join_hid H
      replace H := ite_f H
      replace H := app_hid H
      replace H := join_hid H
      replace H := ite_f H
      replace H := app_hid H
      replace H := join_hid H
      replace H := ite_f H
      replace H := app_hid H
      obtain rfl := ret_hid H
      go_wp2_with fail
      go_ret
      exact ⟨rfl, HBwt_8.out⟩
    | true =>
      replace H := ite_t H
      replace H := bind_hid H
      obtain ⟨t_13, qt_13, H⟩ := H
      go_wp2_with fail
      go_at_call 64
      refine (Go.Proofs.YtgimcnpkngpmiaaDoor.GiWithin.C (p_kind_) (1) (5)  _    qt_13).mono ?_
      rintro e_t_13 wt_13 ⟨rfl, bt_13⟩
      have HBwt_13 := Lib.hid (Below.step HBwt_8.out bt_13)
      replace kp_0_0 := cell_below bt_13 kp_0_0
      replace kp_0_1 := cell_below bt_13 kp_0_1
      replace kp_0_2 := cell_below bt_13 kp_0_2
      replace kp_0_3 := cell_below bt_13 kp_0_3
      replace kp_0_4 := cell_below bt_13 kp_0_4
      replace kp_0_5 := cell_below bt_13 kp_0_5
      clear bt_13
      replace H := app_hid H
      replace H := join_hid H
      cases t_13 with
      | false =>
        replace H := ite_f H
        replace H := app_hid H
        replace H := join_hid H
        replace H := ite_f H
        replace H := app_hid H
        replace H := join_hid H
        replace H := ite_f H
        replace H := app_hid H
        replace H := join_hid H
        replace H := ite_f H
        replace H := app_hid H
        obtain rfl := ret_hid H
        go_wp2_with fail
        go_ret
        exact ⟨rfl, HBwt_13.out⟩
      | true =>
        replace H := ite_t H
        replace H := bind_hid H
        obtain ⟨t_18, qt_18, H⟩ := H
        go_wp2_with fail
        go_at_call 47
        refine (Go.Proofs.YtgimcnpkngpmiaaDoor.GiIsDay.C (p_first)  _    qt_18).mono ?_
        rintro e_t_18 wt_18 ⟨rfl, bt_18⟩
        have HBwt_18 := Lib.hid (Below.step HBwt_13.out bt_18)
        replace kp_0_0 := cell_below bt_18 kp_0_0
        replace kp_0_1 := cell_below bt_18 kp_0_1
        replace kp_0_2 := cell_below bt_18 kp_0_2
        replace kp_0_3 := cell_below bt_18 kp_0_3
        replace kp_0_4 := cell_below bt_18 kp_0_4
        replace kp_0_5 := cell_below bt_18 kp_0_5
        clear bt_18
        replace H := app_hid H
        replace H := join_hid H
        cases t_18 with
        | false =>
          replace H := ite_f H
          replace H := app_hid H
          replace H := join_hid H
          replace H := ite_f H
          replace H := app_hid H
          replace H := join_hid H
          replace H := ite_f H
          replace H := app_hid H
          obtain rfl := ret_hid H
          go_wp2_with fail
          go_ret
          exact ⟨rfl, HBwt_18.out⟩
        | true =>
          replace H := ite_t H
          replace H := bind_hid H
          obtain ⟨t_23, qt_23, H⟩ := H
          go_wp2_with fail
          go_at_call 47
          refine (Go.Proofs.YtgimcnpkngpmiaaDoor.GiIsDay.C (p_last)  _    qt_23).mono ?_
          rintro e_t_23 wt_23 ⟨rfl, bt_23⟩
          have HBwt_23 := Lib.hid (Below.step HBwt_18.out bt_23)
          replace kp_0_0 := cell_below bt_23 kp_0_0
          replace kp_0_1 := cell_below bt_23 kp_0_1
          replace kp_0_2 := cell_below bt_23 kp_0_2
          replace kp_0_3 := cell_below bt_23 kp_0_3
          replace kp_0_4 := cell_below bt_23 kp_0_4
          replace kp_0_5 := cell_below bt_23 kp_0_5
          clear bt_23
          replace H := app_hid H
          replace H := join_hid H
          cases t_23 with
          | false =>
            replace H := ite_f H
            replace H := app_hid H
            replace H := join_hid H
            replace H := ite_f H
            replace H := app_hid H
            obtain rfl := ret_hid H
            go_wp2_with fail
            go_ret
            exact ⟨rfl, HBwt_23.out⟩
          | true =>
            replace H := ite_t H
            replace H := let_hid H
            obtain ⟨t_30, ht_30, H⟩ := H
            replace H := app_hid H
            replace H := join_hid H
            cases t_30 with
            | false =>
              replace H := ite_f H
              replace H := app_hid H
              obtain rfl := ret_hid H
              go_wp2_with fail
              go_ret
              exact ⟨rfl, HBwt_23.out⟩
            | true =>
              replace H := ite_t H
              replace H := bind_hid H
              obtain ⟨t_37, qt_37, H⟩ := H
              go_wp2_with fail
              go_at_call 79
              refine (Go.Proofs.YtgimcnpkngpmiaaDoor.GiIsLoss.C (p_lost) (p_town)  _    qt_37).mono ?_
              rintro e_t_37 wt_37 ⟨rfl, bt_37⟩
              have HBwt_37 := Lib.hid (Below.step HBwt_23.out bt_37)
              replace kp_0_0 := cell_below bt_37 kp_0_0
              replace kp_0_1 := cell_below bt_37 kp_0_1
              replace kp_0_2 := cell_below bt_37 kp_0_2
              replace kp_0_3 := cell_below bt_37 kp_0_3
              replace kp_0_4 := cell_below bt_37 kp_0_4
              replace kp_0_5 := cell_below bt_37 kp_0_5
              clear bt_37
              replace H := app_hid H
              obtain rfl := ret_hid H
              go_wp2_with fail
              go_ret
              exact ⟨rfl, HBwt_37.out⟩
end Go.Proofs.YtgimcnpkngpmiaaDoor.GiIsPostmark

/- Rows of bytes that a conversion from a string lays (the row bears a mark behind its last cell), in words like those of other rows of one's own. No condition. -/
namespace Go.Proofs.YtgimcnpkngpmiaaDoor.GoB
set_option linter.unusedVariables false
set_option linter.unusedSimpArgs false
open Go.RowKit
open Go.Proofs.YtgimcnpkngpmiaaDoor.Rowed Go.Proofs.YtgimcnpkngpmiaaDoor.Turn Go.Proofs.YtgimcnpkngpmiaaDoor.GoM

def u8s (l : List Int) : List Value := l.map (fun z => Value.int .u8 z)
theorem u8s_len (l : List Int) : (u8s l).length = l.length := by simp [u8s]
/-- a row of one's own that no mark covers -/
def ownsB (w : World) (base : Nat) (e : TypeId) (size : Nat) (v : Value) (n : Nat) (xs : List Value) : Prop :=
  xs.length = n * size ∧
  ((v = .slice none 0 0 ∧ n = 0) ∨
   ∃ g cap cur, v = .slice (some ⟨g, 0, none⟩) n cap ∧ base ≤ g ∧ (∃ fz, w.heap[g]? = some (.cells cur e fz) ∧ cur.size ≤ fz.1) ∧ n ≤ cap ∧ n ≤ 9223372036854775807 ∧ cur.size = cap * size ∧ cur.toList.take (n * size) = xs)
section
variable {w : World} {base : Nat} {e : TypeId} {size : Nat} {v : Value} {n : Nat} {xs : List Value}
theorem ownsB.lt (h : ownsB w base e size v n xs) : ∀ k, v.ownBlock = some k → base ≤ k ∧ k < w.heap.size := by
  intro k hk
  rcases h.2 with ⟨rfl, _⟩ | ⟨g, cap, cur, rfl, hb, ⟨fz, hg, _⟩, _⟩
  · simp [Value.ownBlock] at hk
  · simp [Value.ownBlock] at hk
    subst hk
    exact ⟨hb, (Array.getElem?_eq_some_iff.1 hg).1⟩
theorem ownsB.kept {w' : World} {row : Option Nat} (h : ownsB w base e size v n xs) (hg : w.grownBy w' row) (hne : v.ownBlock = none ∨ v.ownBlock ≠ row) : ownsB w' base e size v n xs := by
  refine ⟨h.1, ?_⟩
  rcases h.2 with hn | ⟨g, cap, cur, rfl, hb, ⟨fz, hgg, hz⟩, rest⟩
  · exact .inl hn
  · refine .inr ⟨g, cap, cur, rfl, hb, ⟨fz, ?_, hz⟩, rest⟩
    rw [hg.block g (Array.getElem?_eq_some_iff.1 hgg).1 (by simpa [Value.ownBlock] using hne)]
    exact hgg
theorem ownsB.cells (h : ownsB w base e size v n xs) {g : Nat} (hg : v.ownBlock = some g) : ∀ j u, xs[j]? = some u → w.cell? ((⟨g, 0, none⟩ : Addr).add j) = some u := by
  intro j u hu
  rcases h.2 with ⟨rfl, _⟩ | ⟨g', cap, cur, rfl, _, ⟨fz, hgg, _⟩, _, _, _, htake⟩
  · simp [Value.ownBlock] at hg
  · simp [Value.ownBlock] at hg
    subst hg
    rw [add_flat, Nat.zero_add, cell_of_row w g' j cur e fz hgg]
    rw [← htake, List.getElem?_take] at hu
    split at hu
    · simpa using hu
    · cases hu
theorem ownsB.frozenAt {g cap : Nat} (h : ownsB w base e size (.slice (some ⟨g, 0, none⟩) n cap) n xs) (j : Nat) (hj : j < n * size) : w.frozen? ⟨g, j, none⟩ = false := by
  rcases h.2 with ⟨h', _⟩ | ⟨g', cap', cur, h', _, ⟨fz, hg, hz⟩, hnc, _, hcs, _⟩
  · simp at h'
  · simp only [Value.slice.injEq, Option.some.injEq, Addr.mk.injEq, and_true, true_and] at h'
    obtain ⟨rfl, rfl⟩ := h'
    have : n * size ≤ cap * size := Nat.mul_le_mul_right size hnc
    obtain ⟨lo, hi⟩ := fz
    unfold World.frozen?
    rw [hg]
    simp only at hz ⊢
    simp
    omega
theorem ownsB.stored {g cap : Nat} (h : ownsB w base e size (.slice (some ⟨g, 0, none⟩) n cap) n xs) (j : Nat) (u : Value) :
    ownsB (w.setCell ⟨g, j, none⟩ u) base e size (.slice (some ⟨g, 0, none⟩) n cap) n (xs.set j u) ∧ w.grownBy (w.setCell ⟨g, j, none⟩ u) (some g) := by
  rcases h.2 with ⟨h', _⟩ | ⟨g', cap', cur, h', hb, ⟨fz, hg, hz⟩, hnc, hcm, hcs, htake⟩
  · simp at h'
  · simp only [Value.slice.injEq, Option.some.injEq, Addr.mk.injEq, and_true, true_and] at h'
    obtain ⟨rfl, rfl⟩ := h'
    refine ⟨⟨by simpa using h.1, .inr ⟨g, cap, cur.setIfInBounds j u, rfl, hb, ⟨fz, ?_, by simpa using hz⟩, hnc, hcm, by simpa using hcs, ?_⟩⟩,
      ⟨rfl, rfl, rfl, by simp, fun k _ hk => heap_setCell_other w ⟨g, j, none⟩ k u (fun e => hk (by simp [e]))⟩⟩
    · show (w.setCell ⟨g, j, none⟩ u).heap[g]? = _
      have hl := (Array.getElem?_eq_some_iff.1 hg).1
      simp [World.setCell, Array.getElem?_modify, hg]
    · rw [Array.toList_setIfInBounds, ← htake, List.take_set]
end
theorem own_below {w w' : World} {base n size : Nat} {v : Value} {e : TypeId} {xs : List Value} (h : ownsB w base e size v n xs) (hb : Below w.heap.size w w') : ownsB w' base e size v n xs :=
  h.kept (Aid.grown_of hb) (by cases v.ownBlock <;> simp)
theorem own_lt {w : World} {b T K n m c : Nat} {A : Option Addr} {xs : List Value} (h : ownsB w b T K (.slice A m c) n xs) (a : Addr) (ha : A = some a) : b ≤ a.block ∧ a.block < w.heap.size := by
  subst ha
  exact h.lt a.block rfl
theorem apart_fresh {w : World} {b T K n m c : Nat} {A : Option Addr} {xs : List Value} (h : ownsB w b T K (.slice A m c) n xs) : Apart (some ⟨w.heap.size, 0, none⟩) A := by
  intro a a' ha ha' e
  have := (own_lt h a' ha').2
  injection ha with ha
  subst ha
  simp at e
  omega
theorem apart_call {w w1 : World} {b T K n m c T' K' n' m' c' : Nat} {A B : Option Addr} {xs ys : List Value} (h1 : w1.ownsRow w.heap.size T K (.slice A m c) n xs) (h : ownsB w b T' K' (.slice B m' c') n' ys) : Apart A B := by
  intro a a' ha ha' e
  have := (own_lt h a' ha').2
  have := (GoM.own_lt h1 a ha).1
  omega
theorem own_other {w w' : World} {b T K n m c n' c' : Nat} {A B : Option Addr} {ys : List Value} (h : ownsB w b T K (.slice B m c) n ys) (hg : w.grownBy w' (Value.slice A n' c').ownBlock) (hD : Apart A B) : ownsB w' b T K (.slice B m c) n ys := by
  refine h.kept hg ?_
  cases B with
  | none => exact .inl rfl
  | some y =>
    refine .inr ?_
    cases A with
    | none => simp [Value.ownBlock]
    | some x => simp only [Value.ownBlock, ne_eq, Option.some.injEq]; exact fun e => hD x y rfl rfl e.symm
theorem apart_old {wr : World} {b T K n m c g : Nat} {A : Option Addr} {xs : List Value} (h : ownsB wr b T K (.slice A m c) n xs) (hg : g < b) : Apart A (some ⟨g, 0, none⟩) := by
  intro a a' ha ha' e
  have := (own_lt h a ha).1
  injection ha' with ha'
  subst ha'
  simp at e
  omega
theorem own_len {w : World} {b T K n m c : Nat} {A : Option Addr} {xs : List Value} (h : m = n) (hO : ownsB w b T K (.slice A n c) n xs) : ownsB w b T K (.slice A m c) m xs := by subst h; exact hO
theorem own_max {w : World} {b T K n c : Nat} {A : Option Addr} {xs : List Value} (h : ownsB w b T K (.slice A n c) n xs) : n ≤ 9223372036854775807 := by
  rcases h.2 with ⟨_, h0⟩ | ⟨g, cap, cur, hv, _, _, h1, h2, _⟩
  · omega
  · exact h2
theorem own_some {w : World} {b T K n c : Nat} {A : Option Addr} {xs : List Value} (h : ownsB w b T K (.slice A n c) n xs) (hn : 0 < n) : ∃ g, A = some ⟨g, 0, none⟩ := by
  rcases h.2 with ⟨_, h0⟩ | ⟨g, cap, cur, hv, _⟩
  · omega
  · injection hv with e1; exact ⟨g, e1⟩
theorem own_stores {b T K n c g : Nat} (ps : List (Nat × Value)) : ∀ {w : World} {xs : List Value}, ownsB w b T K (.slice (some ⟨g, 0, none⟩) n c) n xs →
    ownsB (ps.foldl (fun w p => w.setCell ⟨g, p.1, none⟩ p.2) w) b T K (.slice (some ⟨g, 0, none⟩) n c) n (ps.foldl (fun xs p => xs.set p.1 p.2) xs) ∧ w.grownBy (ps.foldl (fun w p => w.setCell ⟨g, p.1, none⟩ p.2) w) (some g) := by
  induction ps with
  | nil => intro w xs h; exact ⟨h, Aid.grown_refl _ _⟩
  | cons p ps ih =>
    intro w xs h
    have h1 := h.stored p.1 p.2
    have h2 := ih h1.1
    exact ⟨h2.1, Aid.grown_tr h1.2 h2.2⟩
theorem own_cells {w : World} {base n c size : Nat} {A : Option Addr} {e : TypeId} {xs : List Value} (h : ownsB w base e size (.slice A n c) n xs) : Cells w size A n xs := by
  rcases h.2 with ⟨hv, h0⟩ | ⟨g, cap, cur, hv, _⟩
  · subst h0
    have := h.1
    exact ⟨this, fun hn => by rw [Nat.zero_mul] at this; omega⟩
  · injection hv with e1 e2 e3
    subst e1
    exact ⟨h.1, fun _ => ⟨_, rfl, h.cells rfl⟩⟩
theorem u8_at {w : World} {A : Option Addr} {n k : Nat} {l : List Int} (h : Cells w 1 A n (u8s l)) (hk : k < n) : ∃ (b o : Nat) (x : Int), A = some ⟨b, o, none⟩ ∧ l[k]? = some x ∧ w.cell? ⟨b, o + k, none⟩ = some (.int .u8 x) := by
  have hl : k < l.length := by have := h.1; unfold u8s at this; rw [List.length_map] at this; omega
  obtain ⟨⟨b, o, sp⟩, e, hc⟩ := h.2 (by unfold u8s; rw [List.length_map]; omega)
  have h0 := hc 0 (.int .u8 l[0]) (by unfold u8s; rw [List.getElem?_map, List.getElem?_eq_getElem (show 0 < l.length by omega)]; rfl)
  obtain rfl : sp = none := cell_spot (b := b) (o := o) h0
  have hs := List.getElem?_eq_getElem hl
  have := hc k (.int .u8 l[k]) (by unfold u8s; rw [List.getElem?_map, hs]; rfl)
  rw [add_flat] at this
  exact ⟨b, o, l[k], e, hs, this⟩
/-- []byte(s) -/
theorem conv_new {P : Program} (base : Nat) (w : World) (src dst e : TypeId) (s : ByteArray) (hs : P.underlying src = some .string) (hd : P.underlying dst = some (.slice e)) (he : P.underlying e = some (.int .u8)) (hb : base ≤ w.heap.size) (hn : s.size ≤ 9223372036854775807) {l : List Int} (hl : s.toList.map (fun b => (b.toNat : Int)) = l) :
    ∃ w' c, (convert src dst (.string s)).run P w = .ok (.slice (some ⟨w.heap.size, 0, none⟩) l.length c) w' ∧ ownsB w' base e 1 (.slice (some ⟨w.heap.size, 0, none⟩) l.length c) l.length (u8s l) ∧ Below w.heap.size w w' := by
  subst hl
  have hsz : (s.toList.map (fun b => (b.toNat : Int))).length = s.size := by rw [List.length_map, size_list]
  rw [hsz]
  refine ⟨_, _, Lib.run_convert_string_bytes w src dst e s hs hd he, ⟨?_, .inr ⟨w.heap.size, _, Lib.bytesCells w e s, rfl, hb, ⟨_, Lib.bytesWorld_at_new w e s, Nat.le_refl _⟩, grownCap_ge _ _ _ _, hn, ?_, ?_⟩⟩, ?_⟩
  · rw [u8s_len, hsz, Nat.mul_one]
  · have := grownCap_ge w s.size 0 e
    have h2 : s.data.size = s.size := rfl
    simp only [Lib.bytesCells, Array.size_append, Array.size_map, Array.size_replicate, Nat.mul_one, h2]
    omega
  · rw [Nat.mul_one]
    have h2 : s.data.toList.length = s.size := rfl
    simp only [Lib.bytesCells, Array.toList_append, Array.toList_map, u8s, List.map_map]
    rw [List.take_append_of_le_length (by rw [List.length_map, h2]; exact Nat.le_refl _), List.take_of_length_le (by rw [List.length_map, h2]; exact Nat.le_refl _), Lib.toList_data]
    rfl
  · exact ⟨rfl, rfl, rfl, by rw [Lib.bytesWorld_size]; omega, fun k hk => Lib.bytesWorld_at_old w e s k hk⟩
/-- string(b) -/
def strK (l : List Int) : ByteArray := ⟨(l.map (fun z => UInt8.ofNat z.toNat)).toArray⟩
theorem fold_push (l : List Int) : ∀ r : ByteArray, l.foldl (fun r n => r.push (UInt8.ofNat n.toNat)) r = ⟨r.data ++ (l.map (fun z => UInt8.ofNat z.toNat)).toArray⟩ := by
  induction l with
  | nil => intro r; simp
  | cons x l ih => intro r; rw [List.foldl_cons, ih]; simp [ByteArray.push]
theorem conv_back {P : Program} {w : World} {src dst e : TypeId} {b n c : Nat} {A : Option Addr} {l : List Int} {s : ByteArray} (hs : P.underlying src = some (.slice e)) (he : P.underlying e = some (.int .u8)) (hd : P.underlying dst = some .string)
    (h : ownsB w b e 1 (.slice A n c) n (u8s l)) (hl : strK l = s) : (convert src dst (.slice A n c)).run P w = .ok (.string s) w := by
  subst hl
  have hn : l.length = n := by have := h.1; rw [u8s_len, Nat.mul_one] at this; exact this
  rcases h.2 with ⟨hv, h0⟩ | ⟨g, cap, cur, hv, _⟩
  · injection hv with e1 e2 e3
    subst e1 e2 e3
    have : l = [] := List.length_eq_zero_iff.1 hn
    subst this
    rw [run_convert_bytes_string w src dst e _ 0 0 hs he hd]
    simp [Conv.bytesToString, strK]
    rfl
  · injection hv with e1 e2 e3
    subst e1 e3
    rw [run_convert_bytes_string w src dst e _ n c hs he hd]
    have hload := run_loadCells_list (P := P) w ⟨g, 0, none⟩ (l.map (Value.int .u8)) (fun j v hj => h.cells rfl j v hj)
    rw [List.length_map, hn] at hload
    rw [run_bytesToString w ⟨g, 0, none⟩ n c l hload, fold_push]
    have he0 : ByteArray.empty.data = #[] := rfl
    rw [he0, Array.empty_append]; rfl
end Go.Proofs.YtgimcnpkngpmiaaDoor.GoB

/- loop.example/g01062/impl.shownBy as a plain function, and the contract of the program's: where the plain one has an answer, the program has it. Conditions: slices read as lists. -/
namespace Go.Proofs.YtgimcnpkngpmiaaDoor.GiLoShownBy
set_option linter.unusedVariables false
set_option linter.unusedSimpArgs false
open Go.RowKit
open Go.Proofs.YtgimcnpkngpmiaaDoor.Rowed Go.Proofs.YtgimcnpkngpmiaaDoor.Turn Go.Proofs.YtgimcnpkngpmiaaDoor.Aid Go.Proofs.YtgimcnpkngpmiaaDoor.GoP Go.Proofs.YtgimcnpkngpmiaaDoor.GoM Go.Proofs.YtgimcnpkngpmiaaDoor.GoB

def l0 (p_lost : ByteArray) (k0 : Nat) (s : (List Int)) (nx0 bk0 : (List Int) → Option (ByteArray)) : Option (ByteArray) :=
  letK s fun shown_3l0 =>
  Option.bind (idx p_lost.toList (k0 : Int)) fun (yt_15 : UInt8) =>
  letK ((yt_15.toNat : Int)) fun (t_15 : Int) =>
  letK (t_15 == 120) fun (t_16 : Bool) =>
  iteK t_16
  (Option.bind (idx shown_3l0 (k0 : Int)) fun (yt_19 : Int) =>
  letK (shown_3l0.set k0 63) fun (l20_20 : (List Int)) =>
  appK nx0 (l20_20))
  (appK nx0 (shown_3l0))

def e0  (s : (List Int)) : Option (ByteArray) :=
  letK s fun shown_3l0 =>
  letK (Go.Proofs.YtgimcnpkngpmiaaDoor.GoB.strK shown_3l0) fun (t_24 : ByteArray) =>
  some t_24

def P (p : Go.Proofs.YtgimcnpkngpmiaaDoor.PPostmark.Postmark) : Option (ByteArray) :=
  unPostmark p fun (p_id : Int) (p_town : ByteArray) (p_kind_ : Int) (p_first : Int) (p_last : Int) (p_lost : ByteArray) =>
  guardK (p_town.size ≤ 1099511627776) <|
  letK (p_town.toList.map (fun b_ => (b_.toNat : Int))) fun (t_4 : (List Int)) =>
  cntK (l0 p_lost) (t_4.length) 0 (t_4) (e0 )

set_option maxRecDepth 100000 in
set_option maxHeartbeats 2000000 in
theorem C (p : Go.Proofs.YtgimcnpkngpmiaaDoor.PPostmark.Postmark)   (w : World)   {r : ByteArray} (H : Hid (P p = some r)) :
    Calls Tryd.prog 53 #[p.val] w (Gives (.string r) w) := by
  have HB := Lib.hid (Below.refl w.heap.size w)
  unfold P at H
  obtain ⟨p_id, p_town, p_kind_, p_first, p_last, p_lost⟩ := p
  replace H := unPostmark_hid H
  unfold Go.Proofs.YtgimcnpkngpmiaaDoor.PPostmark.Postmark.val
  go_enter Tryd.func53, Tryd.ntmps53
  obtain ⟨w_p_0, hw_p_0⟩ : ∃ x, w.alloc (.cells #[.int .i64 p_id, .string p_town, .int .i64 p_kind_, .int .i64 p_first, .int .i64 p_last, .string p_lost] 39) = x := ⟨_, rfl⟩
  have bw_p_0 : Below w.heap.size w w_p_0 := by rw [← hw_p_0]; exact (Below.refl _ _).alloc (Nat.le_refl _) _
  have HBw_p_0 := Lib.hid (Below.step HB.out bw_p_0)
  clear bw_p_0
  have kp_0_0 : w_p_0.cell? ⟨w.heap.size, 0, none⟩ = some (.int .i64 p_id) := by rw [← hw_p_0]; exact box_new _ _ _ 0 _ rfl
  have kp_0_1 : w_p_0.cell? ⟨w.heap.size, 1, none⟩ = some (.string p_town) := by rw [← hw_p_0]; exact box_new _ _ _ 1 _ rfl
  have kp_0_2 : w_p_0.cell? ⟨w.heap.size, 2, none⟩ = some (.int .i64 p_kind_) := by rw [← hw_p_0]; exact box_new _ _ _ 2 _ rfl
  have kp_0_3 : w_p_0.cell? ⟨w.heap.size, 3, none⟩ = some (.int .i64 p_first) := by rw [← hw_p_0]; exact box_new _ _ _ 3 _ rfl
  have kp_0_4 : w_p_0.cell? ⟨w.heap.size, 4, none⟩ = some (.int .i64 p_last) := by rw [← hw_p_0]; exact box_new _ _ _ 4 _ rfl
  have kp_0_5 : w_p_0.cell? ⟨w.heap.size, 5, none⟩ = some (.string p_lost) := by rw [← hw_p_0]; exact box_new _ _ _ 5 _ rfl
  replace H := guard_hid H
  obtain ⟨hnt_4, H⟩ := H
  replace H := let_hid H
  obtain ⟨t_4, ht_4, H⟩ := H
  have Dt_4_p_0 := Lib.hid (apart_box kp_0_0)
  obtain ⟨wt_4, ct_4, rt_4, ot_4, bt_4⟩ := Go.Proofs.YtgimcnpkngpmiaaDoor.GoB.conv_new (P := Tryd.prog) (w.heap.size) w_p_0 9 42 5 p_town Tryd.underlying9 Tryd.underlying42 Tryd.underlying5 HBw_p_0.out.size (by omega) ht_4
  have Ot_4 := Lib.hid ot_4
  clear ot_4
  have hht_4 := Lib.hid ht_4
  clear ht_4
  have HBwt_4 := Lib.hid (Below.step HBw_p_0.out bt_4)
  have kp_0_0__167 := cell_below bt_4 kp_0_0
  have kp_0_1__168 := cell_below bt_4 kp_0_1
  have kp_0_2__169 := cell_below bt_4 kp_0_2
  have kp_0_3__170 := cell_below bt_4 kp_0_3
  have kp_0_4__171 := cell_below bt_4 kp_0_4
  have kp_0_5__172 := cell_below bt_4 kp_0_5
  clear bt_4
  go_wp2_with fail
  clear kp_0_0 kp_0_1 kp_0_2 kp_0_3 kp_0_4 kp_0_5 rt_4
  have hb_0 : t_4.length ≤ 9223372036854775807 := own_max Ot_4.out
  go_wp2_with fail
  go_loopg [10] (t_4.length) (fun m_ v10_ wr => ∃ (k0 : Nat) (shown_3l0 : (List Int)), k0 + m_ = t_4.length ∧ v10_ = .int .i64 (k0 : Int) ∧ Hid (cntK (l0 p_lost) m_ k0 (shown_3l0) (e0 ) = some r) ∧ Hid (Below w.heap.size w wr) ∧ wr.cell? ⟨w.heap.size, 0, none⟩ = some (.int .i64 p_id) ∧ wr.cell? ⟨w.heap.size, 1, none⟩ = some (.string p_town) ∧ wr.cell? ⟨w.heap.size, 2, none⟩ = some (.int .i64 p_kind_) ∧ wr.cell? ⟨w.heap.size, 3, none⟩ = some (.int .i64 p_first) ∧ wr.cell? ⟨w.heap.size, 4, none⟩ = some (.int .i64 p_last) ∧ wr.cell? ⟨w.heap.size, 5, none⟩ = some (.string p_lost) ∧ Hid (Go.Proofs.YtgimcnpkngpmiaaDoor.GoB.ownsB wr w.heap.size 5 1 (.slice (some ⟨w_p_0.heap.size, 0, none⟩) t_4.length ct_4) t_4.length (Go.Proofs.YtgimcnpkngpmiaaDoor.GoB.u8s shown_3l0)) ∧ Hid (shown_3l0.length = t_4.length) ∧ Hid (Apart (some ⟨w_p_0.heap.size, 0, none⟩) (some ⟨w.heap.size, 0, none⟩)))
  case atStart => exact ⟨0, _, by omega, rfl, H, HBwt_4, kp_0_0__167, kp_0_1__168, kp_0_2__169, kp_0_3__170, kp_0_4__171, kp_0_5__172, Ot_4, Lib.hid (rfl), Lib.hid Dt_4_p_0.out⟩
  case round =>
    obtain ⟨k0, shown_3l0, hkm0, rfl, H, HBwr0, kp_0_0__167, kp_0_1__168, kp_0_2__169, kp_0_3__170, kp_0_4__171, kp_0_5__172, Oshown_3l0, hnshown_3l0, Dshown_3l0_p_0⟩ := hrel
    rename World => wr0
    cases gk with
    | zero =>
      obtain rfl : k0 = t_4.length := by omega
      have hc0 : decide (((t_4.length : Nat) : Int) < ((t_4.length : Nat) : Int)) = false := by simp
      replace H := cnt_zero H
      unfold e0 at H
      replace H := let_hid H
      obtain ⟨_, rfl, H⟩ := H
      replace H := let_hid H
      obtain ⟨t_24, ht_24, H⟩ := H
      have rt_24 := Go.Proofs.YtgimcnpkngpmiaaDoor.GoB.conv_back (P := Tryd.prog) Tryd.underlying42 Tryd.underlying5 Tryd.underlying9 Oshown_3l0.out ht_24
      have hht_24 := Lib.hid ht_24
      clear ht_24
      obtain rfl := ret_hid H
      go_wp2_with fail
      go_ret
      exact ⟨rfl, HBwr0.out⟩
    | succ m0 =>
      have hlt0 : k0 < t_4.length := by omega
      have hc0 : decide ((k0 : Int) < ((t_4.length : Nat) : Int)) = true := by simp; omega
      replace H := cnt_succ H
      unfold l0 at H
      replace H := let_hid H
      obtain ⟨_, rfl, H⟩ := H
      replace H := idx_hid H
      obtain ⟨nt_15, yt_15, et_15, lt_15, gt_15, H⟩ := H
      obtain rfl : k0 = nt_15 := by omega
      clear et_15
      have rt_15 := byte_rule lt_15 gt_15.out
      have b0t_15 : (0 : Int) ≤ (k0 : Int) := by omega
      have b1t_15 : (k0 : Int) < (p_lost.size : Int) := by have := size_list p_lost; omega
      have b2t_15 : ((k0 : Int)).toNat = k0 := by omega
      have b3t_15 : k0 < p_lost.size := by have := size_list p_lost; omega
      replace H := let_hid H
      obtain ⟨t_15, ht_15, H⟩ := H
      replace H := let_hid H
      obtain ⟨t_16, ht_16, H⟩ := H
      cases t_16 with
      | false =>
        replace H := ite_f H
        replace H := app_hid H
        go_wp2_with fail
        go_roundg m0
        case measure => omega
        case rel => exact ⟨k0 + 1, _, by omega, by go_num, H, HBwr0, kp_0_0__167, kp_0_1__168, kp_0_2__169, kp_0_3__170, kp_0_4__171, kp_0_5__172, Oshown_3l0, Lib.hid (hnshown_3l0.out), Lib.hid Dshown_3l0_p_0.out⟩
      | true =>
        replace H := ite_t H
        replace H := idx_hid H
        obtain ⟨nt_19, yt_19, et_19, lt_19, gt_19, H⟩ := H
        obtain rfl : k0 = nt_19 := by omega
        clear et_19
        have hqt_19 := hnshown_3l0.out
        obtain ⟨ab_t_19, ao_t_19, zt_19, At_19, z_t_19, ct_19_0⟩ := Go.Proofs.YtgimcnpkngpmiaaDoor.GoB.u8_at (own_cells Oshown_3l0.out) (k := k0) (by omega)
        obtain rfl := Option.some.inj (gt_19.out.symm.trans z_t_19)
        simp only [Option.some.injEq, Addr.mk.injEq] at At_19
        obtain ⟨rfl, rfl, _⟩ := At_19
        clear z_t_19
        simp only [Nat.zero_add] at ct_19_0
        have b0t_19 : (0 : Int) ≤ (k0 : Int) := by omega
        have b1t_19 : (k0 : Int) < ((t_4.length : Nat) : Int) := by omega
        have b2t_19 : ((k0 : Int)).toNat = k0 := by omega
        clear hqt_19
        replace H := let_hid H
        obtain ⟨l20_20, hl20_20, H⟩ := H
        try simp only [Int.toNat_natCast] at hl20_20
        obtain ⟨wl20_20, hwl20_20⟩ : ∃ x, (wr0).setCell ⟨w_p_0.heap.size, k0, none⟩ (.int .u8 63) = x := ⟨_, rfl⟩
        have z0l20_20 := Oshown_3l0.out.frozenAt (k0) (by have hz_ := lt_19; have hy_ := hnshown_3l0.out; omega)
        have Sl20_20 := Lib.hid (own_stores [(k0, .int .u8 63)] Oshown_3l0.out)
        have nl20_20 : Hid (l20_20.length = t_4.length) := Lib.hid (by rw [← hl20_20, List.length_set]; exact hnshown_3l0.out)
        have Pl20_20 : Hid (Go.Proofs.YtgimcnpkngpmiaaDoor.GoB.ownsB wl20_20 w.heap.size 5 1 (.slice (some ⟨w_p_0.heap.size, 0, none⟩) t_4.length ct_4) t_4.length (Go.Proofs.YtgimcnpkngpmiaaDoor.GoB.u8s l20_20)) := Lib.hid (by have e_ : ([(k0, .int .u8 63)] : List (Nat × Value)).foldl (fun xs p => xs.set p.1 p.2) (Go.Proofs.YtgimcnpkngpmiaaDoor.GoB.u8s shown_3l0) = (Go.Proofs.YtgimcnpkngpmiaaDoor.GoB.u8s l20_20) := (by rw [← hl20_20]; first | done | simp [Go.Proofs.YtgimcnpkngpmiaaDoor.GoB.u8s, List.map_set]); rw [← hwl20_20, ← e_]; exact Sl20_20.out.1)
        have Gl20_20 : Hid (wr0.grownBy wl20_20 (Value.slice (some ⟨w_p_0.heap.size, 0, none⟩) t_4.length ct_4).ownBlock) := Lib.hid (by rw [← hwl20_20]; exact Sl20_20.out.2)
        have HBwl20_20 := Lib.hid (HBwr0.out.grown Gl20_20.out HBwr0.out.size (fun q hq => (Oshown_3l0.out.lt q hq).1))
        have hhl20_20 := Lib.hid hl20_20
        clear hl20_20 Sl20_20
        have kp_0_0__173 := cell_other kp_0_0__167 Gl20_20.out Dshown_3l0_p_0.out
        have kp_0_1__174 := cell_other kp_0_1__168 Gl20_20.out Dshown_3l0_p_0.out
        have kp_0_2__175 := cell_other kp_0_2__169 Gl20_20.out Dshown_3l0_p_0.out
        have kp_0_3__176 := cell_other kp_0_3__170 Gl20_20.out Dshown_3l0_p_0.out
        have kp_0_4__177 := cell_other kp_0_4__171 Gl20_20.out Dshown_3l0_p_0.out
        have kp_0_5__178 := cell_other kp_0_5__172 Gl20_20.out Dshown_3l0_p_0.out
        clear Oshown_3l0 Gl20_20
        replace H := app_hid H
        go_wp2_with fail
        clear z0l20_20 kp_0_0__167 kp_0_1__168 kp_0_2__169 kp_0_3__170 kp_0_4__171 kp_0_5__172 ct_19_0
        go_roundg m0
        case measure => omega
        case rel => exact ⟨k0 + 1, _, by omega, by go_num, H, HBwl20_20, kp_0_0__173, kp_0_1__174, kp_0_2__175, kp_0_3__176, kp_0_4__177, kp_0_5__178, Pl20_20, Lib.hid (nl20_20.out), Lib.hid Dshown_3l0_p_0.out⟩
end Go.Proofs.YtgimcnpkngpmiaaDoor.GiLoShownBy

/- loop.example/g01062/laws.eqPostmark as a plain function, and the contract of the program's: where the plain one has an answer, the program has it. Conditions: slices read as lists. -/
namespace Go.Proofs.YtgimcnpkngpmiaaDoor.GlEqPostmark
set_option linter.unusedVariables false
set_option linter.unusedSimpArgs false
open Go.RowKit
open Go.Proofs.YtgimcnpkngpmiaaDoor.Rowed Go.Proofs.YtgimcnpkngpmiaaDoor.Turn Go.Proofs.YtgimcnpkngpmiaaDoor.Aid Go.Proofs.YtgimcnpkngpmiaaDoor.GoP Go.Proofs.YtgimcnpkngpmiaaDoor.GoM

def P (a : Go.Proofs.YtgimcnpkngpmiaaDoor.PPostmark.Postmark) (b : Go.Proofs.YtgimcnpkngpmiaaDoor.PPostmark.Postmark) : Option (Bool) :=
  unPostmark a fun (a_id : Int) (a_town : ByteArray) (a_kind_ : Int) (a_first : Int) (a_last : Int) (a_lost : ByteArray) =>
  unPostmark b fun (b_id : Int) (b_town : ByteArray) (b_kind_ : Int) (b_first : Int) (b_last : Int) (b_lost : ByteArray) =>
  letK (a_id != b_id) fun (t_7 : Bool) =>
  iteK t_7
  (some false)
  (letK (!(a_town.toList == b_town.toList)) fun (t_13 : Bool) =>
  iteK t_13
  (some false)
  (letK (a_kind_ != b_kind_) fun (t_19 : Bool) =>
  iteK t_19
  (some false)
  (letK (a_first != b_first) fun (t_25 : Bool) =>
  iteK t_25
  (some false)
  (letK (a_last != b_last) fun (t_31 : Bool) =>
  iteK t_31
  (some false)
  (letK (!(a_lost.toList == b_lost.toList)) fun (t_37 : Bool) =>
  iteK t_37
  (some false)
  (some true))))))

set_option maxRecDepth 100000 in
set_option maxHeartbeats 2000000 in
theorem C (a : Go.Proofs.YtgimcnpkngpmiaaDoor.PPostmark.Postmark) (b : Go.Proofs.YtgimcnpkngpmiaaDoor.PPostmark.Postmark)   (w : World)   {r : Bool} (H : Hid (P a b = some r)) :
    Calls Tryd.prog 54 #[a.val, b.val] w (Gives (.bool r) w) := by
  have HB := Lib.hid (Below.refl w.heap.size w)
  unfold P at H
  obtain ⟨a_id, a_town, a_kind_, a_first, a_last, a_lost⟩ := a
  replace H := unPostmark_hid H
  obtain ⟨b_id, b_town, b_kind_, b_first, b_last, b_lost⟩ := b
  replace H := unPostmark_hid H
  unfold Go.Proofs.YtgimcnpkngpmiaaDoor.PPostmark.Postmark.val
  go_enter Tryd.func54, Tryd.ntmps54
  obtain ⟨w_a_0, hw_a_0⟩ : ∃ x, w.alloc (.cells #[.int .i64 a_id, .string a_town, .int .i64 a_kind_, .int .i64 a_first, .int .i64 a_last, .string a_lost] 39) = x := ⟨_, rfl⟩
  have bw_a_0 : Below w.heap.size w w_a_0 := by rw [← hw_a_0]; exact (Below.refl _ _).alloc (Nat.le_refl _) _
  have HBw_a_0 := Lib.hid (Below.step HB.out bw_a_0)
  clear bw_a_0
  have ka_0_0 : w_a_0.cell? ⟨w.heap.size, 0, none⟩ = some (.int .i64 a_id) := by rw [← hw_a_0]; exact box_new _ _ _ 0 _ rfl
  have ka_0_1 : w_a_0.cell? ⟨w.heap.size, 1, none⟩ = some (.string a_town) := by rw [← hw_a_0]; exact box_new _ _ _ 1 _ rfl
  have ka_0_2 : w_a_0.cell? ⟨w.heap.size, 2, none⟩ = some (.int .i64 a_kind_) := by rw [← hw_a_0]; exact box_new _ _ _ 2 _ rfl
  have ka_0_3 : w_a_0.cell? ⟨w.heap.size, 3, none⟩ = some (.int .i64 a_first) := by rw [← hw_a_0]; exact box_new _ _ _ 3 _ rfl
  have ka_0_4 : w_a_0.cell? ⟨w.heap.size, 4, none⟩ = some (.int .i64 a_last) := by rw [← hw_a_0]; exact box_new _ _ _ 4 _ rfl
  have ka_0_5 : w_a_0.cell? ⟨w.heap.size, 5, none⟩ = some (.string a_lost) := by rw [← hw_a_0]; exact box_new _ _ _ 5 _ rfl
  obtain ⟨w_b_1, hw_b_1⟩ : ∃ x, w_a_0.alloc (.cells #[.int .i64 b_id, .string b_town, .int .i64 b_kind_, .int .i64 b_first, .int .i64 b_last, .string b_lost] 39) = x := ⟨_, rfl⟩
  have bw_b_1 : Below w_a_0.heap.size w_a_0 w_b_1 := by rw [← hw_b_1]; exact (Below.refl _ _).alloc (Nat.le_refl _) _
  have HBw_b_1 := Lib.hid (Below.step HBw_a_0.out bw_b_1)
  have ka_0_0__212 := cell_below bw_b_1 ka_0_0
  have ka_0_1__213 := cell_below bw_b_1 ka_0_1
  have ka_0_2__214 := cell_below bw_b_1 ka_0_2
  have ka_0_3__215 := cell_below bw_b_1 ka_0_3
  have ka_0_4__216 := cell_below bw_b_1 ka_0_4
  have ka_0_5__217 := cell_below bw_b_1 ka_0_5
  clear bw_b_1
  have kb_1_0 : w_b_1.cell? ⟨w_a_0.heap.size, 0, none⟩ = some (.int .i64 b_id) := by rw [← hw_b_1]; exact box_new _ _ _ 0 _ rfl
  have kb_1_1 : w_b_1.cell? ⟨w_a_0.heap.size, 1, none⟩ = some (.string b_town) := by rw [← hw_b_1]; exact box_new _ _ _ 1 _ rfl
  have kb_1_2 : w_b_1.cell? ⟨w_a_0.heap.size, 2, none⟩ = some (.int .i64 b_kind_) := by rw [← hw_b_1]; exact box_new _ _ _ 2 _ rfl
  have kb_1_3 : w_b_1.cell? ⟨w_a_0.heap.size, 3, none⟩ = some (.int .i64 b_first) := by rw [← hw_b_1]; exact box_new _ _ _ 3 _ rfl
  have kb_1_4 : w_b_1.cell? ⟨w_a_0.heap.size, 4, none⟩ = some (.int .i64 b_last) := by rw [← hw_b_1]; exact box_new _ _ _ 4 _ rfl
  have kb_1_5 : w_b_1.cell? ⟨w_a_0.heap.size, 5, none⟩ = some (.string b_lost) := by rw [← hw_b_1]; exact box_new _ _ _ 5 _ rfl
  replace H := let_hid H
  obtain ⟨t_7, ht_7, H⟩ := H
  cases t_7 with
  | false =>
    replace H := ite_f H
    replace H := let_hid H
    obtain ⟨t_13, ht_13, H⟩ := H
    cases t_13 with
    | false =>
      replace H := ite_f H
      replace H := let_hid H
      obtain ⟨t_19, ht_19, H⟩ := H
      cases t_19 with
      | false =>
        replace H := ite_f H
        replace H := let_hid H
        obtain ⟨t_25, ht_25, H⟩ := H
        cases t_25 with
        | false =>
          replace H := ite_f H
          replace H := let_hid H
          obtain ⟨t_31, ht_31, H⟩ := H
          cases t_31 with
          | false =>
            replace H := ite_f H
            replace H := let_hid H
            obtain ⟨t_37, ht_37, H⟩ := H
            cases t_37 with
            | false =>
              replace H := ite_f H
              obtain rfl := ret_hid H
              go_wp2_with fail
              go_ret
              exact ⟨rfl, HBw_b_1.out⟩
            | true =>
              replace H := ite_t H
              obtain rfl := ret_hid H
              go_wp2_with fail
              go_ret
              exact ⟨rfl, HBw_b_1.out⟩
          | true =>
            replace H := ite_t H
            obtain rfl := ret_hid H
            go_wp2_with fail
            go_ret
            exact ⟨rfl, HBw_b_1.out⟩
        | true =>
          replace H := ite_t H
          obtain rfl := ret_hid H
          go_wp2_with fail
          go_ret
          exact ⟨rfl, HBw_b_1.out⟩
      | true =>
        replace H := ite_t H
        obtain rfl := ret_hid H
        go_wp2_with fail
        go_ret
        exact ⟨rfl, HBw_b_1.out⟩
    | true =>
      replace H := ite_t H
      obtain rfl := ret_hid H
      go_wp2_with fail
      go_ret
      exact ⟨rfl, HBw_b_1.out⟩
  | true =>
    replace H := ite_t H
    obtain rfl := ret_hid H
    go_wp2_with fail
    go_ret
    exact ⟨rfl, HBw_b_1.out⟩
end Go.Proofs.YtgimcnpkngpmiaaDoor.GlEqPostmark

/- loop.example/g01062/laws.eqPostmarkS as a plain function, and the contract of the program's: where the plain one has an answer, the program has it. Conditions: slices read as lists. -/
namespace Go.Proofs.YtgimcnpkngpmiaaDoor.GlEqPostmarkS
set_option linter.unusedVariables false
set_option linter.unusedSimpArgs false
open Go.RowKit
open Go.Proofs.YtgimcnpkngpmiaaDoor.Rowed Go.Proofs.YtgimcnpkngpmiaaDoor.Turn Go.Proofs.YtgimcnpkngpmiaaDoor.Aid Go.Proofs.YtgimcnpkngpmiaaDoor.GoP Go.Proofs.YtgimcnpkngpmiaaDoor.GoM

def l0 (a : (List Go.Proofs.YtgimcnpkngpmiaaDoor.PPostmark.Postmark)) (b : (List Go.Proofs.YtgimcnpkngpmiaaDoor.PPostmark.Postmark)) (k0 : Nat) (s : Unit) (nx0 bk0 : Unit → Option (Bool)) : Option (Bool) :=
  
  Option.bind (idx a (k0 : Int)) fun (yt_14 : Go.Proofs.YtgimcnpkngpmiaaDoor.PPostmark.Postmark) =>
  unPostmark yt_14 fun (t_14_id : Int) (t_14_town : ByteArray) (t_14_kind_ : Int) (t_14_first : Int) (t_14_last : Int) (t_14_lost : ByteArray) =>
  Option.bind (idx b (k0 : Int)) fun (yt_18 : Go.Proofs.YtgimcnpkngpmiaaDoor.PPostmark.Postmark) =>
  unPostmark yt_18 fun (t_18_id : Int) (t_18_town : ByteArray) (t_18_kind_ : Int) (t_18_first : Int) (t_18_last : Int) (t_18_lost : ByteArray) =>
  Option.bind (Go.Proofs.YtgimcnpkngpmiaaDoor.GlEqPostmark.P (Go.Proofs.YtgimcnpkngpmiaaDoor.PPostmark.Postmark.mk t_14_id t_14_town t_14_kind_ t_14_first t_14_last t_14_lost) (Go.Proofs.YtgimcnpkngpmiaaDoor.PPostmark.Postmark.mk t_18_id t_18_town t_18_kind_ t_18_first t_18_last t_18_lost)) fun (t_20 : Bool) =>
  letK (!t_20) fun (t_21 : Bool) =>
  iteK t_21
  (some false)
  (appK nx0 ())

def e0  (s : Unit) : Option (Bool) :=
  
  some true

def P (a : (List Go.Proofs.YtgimcnpkngpmiaaDoor.PPostmark.Postmark)) (b : (List Go.Proofs.YtgimcnpkngpmiaaDoor.PPostmark.Postmark)) : Option (Bool) :=
  letK ((a.length : Int) != (b.length : Int)) fun (t_5 : Bool) =>
  iteK t_5
  (some false)
  (cntK (l0 a b) (a.length) 0 () (e0 ))

set_option maxRecDepth 100000 in
set_option maxHeartbeats 2000000 in
theorem C (a : (List Go.Proofs.YtgimcnpkngpmiaaDoor.PPostmark.Postmark)) (b : (List Go.Proofs.YtgimcnpkngpmiaaDoor.PPostmark.Postmark)) (A0 : Option Addr) (c0 : Nat) (A1 : Option Addr) (c1 : Nat)  (w : World) (M0 : Hid (Cells w 6 A0 a.length (Go.Proofs.YtgimcnpkngpmiaaDoor.PPostmark.flat a))) (N0 : Hid (a.length ≤ 9223372036854775807)) (M1 : Hid (Cells w 6 A1 b.length (Go.Proofs.YtgimcnpkngpmiaaDoor.PPostmark.flat b))) (N1 : Hid (b.length ≤ 9223372036854775807))  {r : Bool} (H : Hid (P a b = some r)) :
    Calls Tryd.prog 11 #[.slice A0 a.length c0, .slice A1 b.length c1] w (Gives (.bool r) w) := by
  have HB := Lib.hid (Below.refl w.heap.size w)
  unfold P at H
  have N0o := N0.out
  have N1o := N1.out
  go_enter Tryd.func11, Tryd.ntmps11
  replace H := let_hid H
  obtain ⟨t_5, ht_5, H⟩ := H
  cases t_5 with
  | false =>
    have Hht_5 : Hid (a.length = b.length) := Lib.hid (by have := bne_eq_false_iff_eq.1 ht_5; omega)
    have nht_5 : (a.length == b.length) = true := beq_iff_eq.2 Hht_5.out
    replace H := ite_f H
    go_wp2_with fail
    go_loopg [5] (a.length) (fun m_ v5_ wr => ∃ (k0 : Nat) , k0 + m_ = a.length ∧ v5_ = .int .i64 (k0 : Int) ∧ Hid (cntK (l0 a b) m_ k0 () (e0 ) = some r) ∧ Hid (Below w.heap.size w wr))
    case atStart => exact ⟨0, by omega, rfl, H, HB⟩
    case round =>
      obtain ⟨k0, hkm0, rfl, H, HBwr0⟩ := hrel
      rename World => wr0
      cases gk with
      | zero =>
        obtain rfl : k0 = a.length := by omega
        have hc0 : decide (((a.length : Nat) : Int) < ((a.length : Nat) : Int)) = false := by simp
        replace H := cnt_zero H
        unfold e0 at H
        obtain rfl := ret_hid H
        go_wp2_with fail
        go_ret
        exact ⟨rfl, HBwr0.out⟩
      | succ m0 =>
        have hlt0 : k0 < a.length := by omega
        have hc0 : decide ((k0 : Int) < ((a.length : Nat) : Int)) = true := by simp; omega
        replace H := cnt_succ H
        unfold l0 at H
        go_wp2_with fail
        replace H := idx_hid H
        obtain ⟨nt_14, yt_14, et_14, lt_14, gt_14, H⟩ := H
        obtain rfl : k0 = nt_14 := by omega
        clear et_14
        obtain ⟨t_14_id, t_14_town, t_14_kind_, t_14_first, t_14_last, t_14_lost⟩ := yt_14
        replace H := unPostmark_hid H
        obtain ⟨ab_t_14, ao_t_14, zt_14, At_14, z_t_14, ct_14_0, ct_14_1, ct_14_2, ct_14_3, ct_14_4, ct_14_5⟩ := Go.Proofs.YtgimcnpkngpmiaaDoor.OPostmark.at_ M0.out lt_14
        obtain rfl := Option.some.inj (gt_14.out.symm.trans z_t_14)
        subst At_14
        have ltt_14 := cell_lt ct_14_0
        replace ct_14_0 := cell_below HBwr0.out ct_14_0
        replace ct_14_1 := cell_below HBwr0.out ct_14_1
        replace ct_14_2 := cell_below HBwr0.out ct_14_2
        replace ct_14_3 := cell_below HBwr0.out ct_14_3
        replace ct_14_4 := cell_below HBwr0.out ct_14_4
        replace ct_14_5 := cell_below HBwr0.out ct_14_5
        clear z_t_14
        have b0t_14 : (0 : Int) ≤ (k0 : Int) := by omega
        have b1t_14 : (k0 : Int) < ((a.length : Nat) : Int) := by omega
        have b2t_14 : ((k0 : Int)).toNat = k0 := by omega
        have Hct_14_0 := Lib.hid ct_14_0
        replace ct_14_0 := cell_regrown ct_14_0
        have Hct_14_1 := Lib.hid ct_14_1
        replace ct_14_1 := cell_regrown ct_14_1
        have Hct_14_2 := Lib.hid ct_14_2
        replace ct_14_2 := cell_regrown ct_14_2
        have Hct_14_3 := Lib.hid ct_14_3
        replace ct_14_3 := cell_regrown ct_14_3
        have Hct_14_4 := Lib.hid ct_14_4
        replace ct_14_4 := cell_regrown ct_14_4
        have Hct_14_5 := Lib.hid ct_14_5
        replace ct_14_5 := cell_regrown ct_14_5
        replace H := idx_hid H
        obtain ⟨nt_18, yt_18, et_18, lt_18, gt_18, H⟩ := H
        obtain rfl : k0 = nt_18 := by omega
        clear et_18
        obtain ⟨t_18_id, t_18_town, t_18_kind_, t_18_first, t_18_last, t_18_lost⟩ := yt_18
        replace H := unPostmark_hid H
        obtain ⟨ab_t_18, ao_t_18, zt_18, At_18, z_t_18, ct_18_0, ct_18_1, ct_18_2, ct_18_3, ct_18_4, ct_18_5⟩ := Go.Proofs.YtgimcnpkngpmiaaDoor.OPostmark.at_ M1.out lt_18
        obtain rfl := Option.some.inj (gt_18.out.symm.trans z_t_18)
        subst At_18
        have ltt_18 := cell_lt ct_18_0
        replace ct_18_0 := cell_below HBwr0.out ct_18_0
        replace ct_18_1 := cell_below HBwr0.out ct_18_1
        replace ct_18_2 := cell_below HBwr0.out ct_18_2
        replace ct_18_3 := cell_below HBwr0.out ct_18_3
        replace ct_18_4 := cell_below HBwr0.out ct_18_4
        replace ct_18_5 := cell_below HBwr0.out ct_18_5
        clear z_t_18
        have b0t_18 : (0 : Int) ≤ (k0 : Int) := by omega
        have b1t_18 : (k0 : Int) < ((b.length : Nat) : Int) := by omega
        have b2t_18 : ((k0 : Int)).toNat = k0 := by omega
        have Hct_18_0 := Lib.hid ct_18_0
        replace ct_18_0 := cell_regrown ct_18_0
        have Hct_18_1 := Lib.hid ct_18_1
        replace ct_18_1 := cell_regrown ct_18_1
        have Hct_18_2 := Lib.hid ct_18_2
        replace ct_18_2 := cell_regrown ct_18_2
        have Hct_18_3 := Lib.hid ct_18_3
        replace ct_18_3 := cell_regrown ct_18_3
        have Hct_18_4 := Lib.hid ct_18_4
        replace ct_18_4 := cell_regrown ct_18_4
        have Hct_18_5 := Lib.hid ct_18_5
        replace ct_18_5 := cell_regrown ct_18_5
        replace H := bind_hid H
        obtain ⟨t_20, qt_20, H⟩ := H
        have nt_20 : ∀ d os, Calls Tryd.prog 54 #[.agg #[.int .i64 t_14_id, .string t_14_town, .int .i64 t_14_kind_, .int .i64 t_14_first, .int .i64 t_14_last, .string t_14_lost], .agg #[.int .i64 t_18_id, .string t_18_town, .int .i64 t_18_kind_, .int .i64 t_18_first, .int .i64 t_18_last, .string t_18_lost]] (Go.Sort.grow (redrawn wr0 d) os) fun e w'' => e = .returned (.bool t_20) ∧ ∃ p : Regrown, w'' = Go.Sort.grow (redrawn wr0 p.d) p.os := fun d os => Calls.regrown_of (Go.Proofs.YtgimcnpkngpmiaaDoor.GlEqPostmark.C ((Go.Proofs.YtgimcnpkngpmiaaDoor.PPostmark.Postmark.mk t_14_id t_14_town t_14_kind_ t_14_first t_14_last t_14_lost)) ((Go.Proofs.YtgimcnpkngpmiaaDoor.PPostmark.Postmark.mk t_18_id t_18_town t_18_kind_ t_18_first t_18_last t_18_lost))  _    qt_20)
        cases t_20 with
        | false =>
          replace H := let_hid H
          obtain ⟨t_21, ht_21, H⟩ := H
          obtain rfl : t_21 = true := ht_21.symm
          refine wp_region_quiet_below (by kernel_rfl) (by kernel_rfl) ?_
          repeat (go_big_quiet_step (first | (go_at_call 54; exact nt_20 _ _)))
          refine wpQuiet_nil ?_
          intro Y6 hY6
          replace hY6 := below_class hY6
          clear nt_20
          replace ct_14_0 := Hct_14_0.out
          clear Hct_14_0
          replace ct_14_1 := Hct_14_1.out
          clear Hct_14_1
          replace ct_14_2 := Hct_14_2.out
          clear Hct_14_2
          replace ct_14_3 := Hct_14_3.out
          clear Hct_14_3
          replace ct_14_4 := Hct_14_4.out
          clear Hct_14_4
          replace ct_14_5 := Hct_14_5.out
          clear Hct_14_5
          replace ct_18_0 := Hct_18_0.out
          clear Hct_18_0
          replace ct_18_1 := Hct_18_1.out
          clear Hct_18_1
          replace ct_18_2 := Hct_18_2.out
          clear Hct_18_2
          replace ct_18_3 := Hct_18_3.out
          clear Hct_18_3
          replace ct_18_4 := Hct_18_4.out
          clear Hct_18_4
          replace ct_18_5 := Hct_18_5.out
          clear Hct_18_5
          have HBY6 := Lib.hid (Below.step HBwr0.out hY6)
          replace ct_14_0 := cell_below hY6 ct_14_0
          replace ct_14_1 := cell_below hY6 ct_14_1
          replace ct_14_2 := cell_below hY6 ct_14_2
          replace ct_14_3 := cell_below hY6 ct_14_3
          replace ct_14_4 := cell_below hY6 ct_14_4
          replace ct_14_5 := cell_below hY6 ct_14_5
          replace ct_18_0 := cell_below hY6 ct_18_0
          replace ct_18_1 := cell_below hY6 ct_18_1
          replace ct_18_2 := cell_below hY6 ct_18_2
          replace ct_18_3 := cell_below hY6 ct_18_3
          replace ct_18_4 := cell_below hY6 ct_18_4
          replace ct_18_5 := cell_below hY6 ct_18_5
          clear hY6
          replace H := ite_t H
          obtain rfl := ret_hid H
          go_wp2_with fail
          go_ret
          exact ⟨rfl, HBY6.out⟩
        | true =>
          replace H := let_hid H
          obtain ⟨t_21, ht_21, H⟩ := H
          obtain rfl : t_21 = false := ht_21.symm
          refine wp_region_quiet_below (by kernel_rfl) (by kernel_rfl) ?_
          repeat (go_big_quiet_step (first | (go_at_call 54; exact nt_20 _ _)))
          refine wpQuiet_nil ?_
          intro Y6 hY6
          replace hY6 := below_class hY6
          clear nt_20
          replace ct_14_0 := Hct_14_0.out
          clear Hct_14_0
          replace ct_14_1 := Hct_14_1.out
          clear Hct_14_1
          replace ct_14_2 := Hct_14_2.out
          clear Hct_14_2
          replace ct_14_3 := Hct_14_3.out
          clear Hct_14_3
          replace ct_14_4 := Hct_14_4.out
          clear Hct_14_4
          replace ct_14_5 := Hct_14_5.out
          clear Hct_14_5
          replace ct_18_0 := Hct_18_0.out
          clear Hct_18_0
          replace ct_18_1 := Hct_18_1.out
          clear Hct_18_1
          replace ct_18_2 := Hct_18_2.out
          clear Hct_18_2
          replace ct_18_3 := Hct_18_3.out
          clear Hct_18_3
          replace ct_18_4 := Hct_18_4.out
          clear Hct_18_4
          replace ct_18_5 := Hct_18_5.out
          clear Hct_18_5
          have HBY6 := Lib.hid (Below.step HBwr0.out hY6)
          replace ct_14_0 := cell_below hY6 ct_14_0
          replace ct_14_1 := cell_below hY6 ct_14_1
          replace ct_14_2 := cell_below hY6 ct_14_2
          replace ct_14_3 := cell_below hY6 ct_14_3
          replace ct_14_4 := cell_below hY6 ct_14_4
          replace ct_14_5 := cell_below hY6 ct_14_5
          replace ct_18_0 := cell_below hY6 ct_18_0
          replace ct_18_1 := cell_below hY6 ct_18_1
          replace ct_18_2 := cell_below hY6 ct_18_2
          replace ct_18_3 := cell_below hY6 ct_18_3
          replace ct_18_4 := cell_below hY6 ct_18_4
          replace ct_18_5 := cell_below hY6 ct_18_5
          clear hY6
          replace H := ite_f H
          replace H := app_hid H
          go_wp2_with fail
          go_roundg m0
          case measure => omega
          case rel => exact ⟨k0 + 1, by omega, by go_num, H, HBY6⟩
  | true =>
    have nht_5 : ¬ (a.length = b.length) := by have := bne_iff_ne.1 ht_5; omega
    replace H := ite_t H
    obtain rfl := ret_hid H
    go_wp2_with fail
    go_ret
    exact ⟨rfl, HB.out⟩
end Go.Proofs.YtgimcnpkngpmiaaDoor.GlEqPostmarkS

/- Plain words on stamps: what a stamp is, when one is valid, when a list of them is; the cells of a list of records. No condition. -/
namespace Go.Proofs.YtgimcnpkngpmiaaDoor.PlainStamp
set_option linter.unusedVariables false

/-- a number lies in a..b -/
def inB (x a b : Int) : Bool := decide (a ≤ x ∧ x ≤ b)
theorem inB_of {x a b : Int} (h : inB x a b = true) : a ≤ x ∧ x ≤ b := by unfold inB at h; exact of_decide_eq_true h
structure St where
  id : Int
  face : Int
  color : Int
  year : Int
deriving DecidableEq

def St.cells (s : St) : List Value := [.int .i64 s.id, .int .i64 s.face, .int .i64 s.color, .int .i64 s.year]
def St.val (s : St) : Value := .agg #[.int .i64 s.id, .int .i64 s.face, .int .i64 s.color, .int .i64 s.year]
/-- each field fits an int -/
def St.fits (s : St) : Prop := (Lit.int .i64 s.id).wf = true ∧ (Lit.int .i64 s.face).wf = true ∧ (Lit.int .i64 s.color).wf = true ∧ (Lit.int .i64 s.year).wf = true

def okSt (s : St) : Bool := inB s.id 1 999 && inB s.face 0 9999 && inB s.color 0 99 && inB s.year 1840 2100
/-- the stamp at k is valid, and its id is above the one ahead of it -/
def okAt (l : List St) (k : Nat) : Bool :=
  match l[k]? with
  | none => true
  | some s => okSt s && (decide (k = 0) || (match l[k-1]? with | none => true | some r => decide (r.id < s.id)))
def okUp (l : List St) (k : Nat) : Bool := (List.range k).all (okAt l)
/-- a list of at most twelve valid stamps with rising ids -/
def okSts (l : List St) : Bool := decide (l.length ≤ 12) && okUp l l.length
/-- the cells of a list of stamps, one after the other -/
def flat (l : List St) : List Value := l.flatMap St.cells
theorem flat_nil : flat [] = [] := rfl
theorem flat_cons (s : St) (l : List St) : flat (s :: l) = s.cells ++ flat l := by simp [flat]
theorem flat_len (l : List St) : (flat l).length = l.length * 4 := by
  induction l with
  | nil => rfl
  | cons s l ih => rw [flat_cons, List.length_append, ih]; simp [St.cells]; omega
theorem flat_at : ∀ (l : List St) (k : Nat) (s : St), l[k]? = some s → ∀ j, j < 4 → (flat l)[k * 4 + j]? = s.cells[j]?
  | [], k, s, h, _, _ => by simp at h
  | r :: l, 0, s, h, j, hj => by
    obtain rfl : r = s := by simpa using h
    rw [flat_cons, List.getElem?_append_left (by simp [St.cells]; omega)]; simp
  | r :: l, k + 1, s, h, j, hj => by
    rw [flat_cons, List.getElem?_append_right (by simp [St.cells]; omega), show (k + 1) * 4 + j - r.cells.length = k * 4 + j by simp [St.cells]; omega]
    exact flat_at l k s (by simpa using h) j hj
end Go.Proofs.YtgimcnpkngpmiaaDoor.PlainStamp

/- Words for reckoning with plain functions; within and l1In. No condition. -/
namespace Go.Proofs.YtgimcnpkngpmiaaDoor.QBase
set_option linter.unusedVariables false
set_option linter.unusedSimpArgs false
open Go.RowKit
open Go.Proofs.YtgimcnpkngpmiaaDoor.GoP Go.Proofs.YtgimcnpkngpmiaaDoor.PlainStamp

theorem iteK_if {ρ : Type} (c : Bool) (a b : Option ρ) : iteK c a b = if c = true then a else b := by cases c <;> rfl
theorem guardK_pos {ρ : Type} {p : Prop} [Decidable p] {a : Option ρ} (h : p) : guardK p a = a := if_pos h
theorem within_eq (n a b : Int) : GiWithin.P n a b = some (inB n a b) := by
  simp only [GiWithin.P, letK, joinK, appK, iteK_if, inB]
  by_cases h1 : a ≤ n <;> by_cases h2 : n ≤ b <;> simp [h1, h2]
theorem l1In_eq (n a b : Int) : GsL1In.P n a b = some (inB n a b) := by
  simp only [GsL1In.P, letK, joinK, appK, iteK_if, inB]
  by_cases h1 : a ≤ n <;> by_cases h2 : n ≤ b <;> simp [h1, h2]
end Go.Proofs.YtgimcnpkngpmiaaDoor.QBase

/- Reckoning with the loops of plain functions; lists of valid records with rising ids. No condition. -/
namespace Go.Proofs.YtgimcnpkngpmiaaDoor.QLoop
set_option linter.unusedVariables false
open Go.RowKit
open Go.Proofs.YtgimcnpkngpmiaaDoor.GoP Go.Proofs.YtgimcnpkngpmiaaDoor.QBase

theorem cnt_ex {σ ρ : Type} {f : Nat → σ → (σ → Option ρ) → (σ → Option ρ) → Option ρ} {fin : σ → Option ρ} {Q : ρ → Prop} {n : Nat} (I : Nat → σ → Prop)
    (step : ∀ k s nx, k < n → I k s → (∀ s', I (k + 1) s' → ∃ r, nx s' = some r ∧ Q r) → ∃ r, f k s nx fin = some r ∧ Q r) (done : ∀ s, I n s → ∃ r, fin s = some r ∧ Q r) :
    ∀ m k s, k + m = n → I k s → ∃ r, cntK f m k s fin = some r ∧ Q r := by
  intro m
  induction m with
  | zero => intro k s hk hI; obtain rfl : k = n := by omega
            exact done s hI
  | succ m ih => intro k s hk hI; exact step k s _ (by omega) hI (fun s' h' => ih (k + 1) s' (by omega) h')
theorem cnt_is {σ ρ : Type} {f : Nat → σ → (σ → Option ρ) → (σ → Option ρ) → Option ρ} {fin : σ → Option ρ} {n : Nat} (r : ρ) (I : Nat → σ → Prop)
    (step : ∀ k s nx, k < n → I k s → (∀ s', I (k + 1) s' → nx s' = some r) → f k s nx fin = some r) (done : ∀ s, I n s → fin s = some r) (s : σ) (h0 : I 0 s) : cntK f n 0 s fin = some r := by
  obtain ⟨r', h, rfl⟩ := cnt_ex (Q := fun x => x = r) I (fun k s nx hk hI hn => ⟨r, step k s nx hk hI (fun s' h' => by obtain ⟨_, h, rfl⟩ := hn s' h'; exact h), rfl⟩) (fun s h => ⟨r, done s h, rfl⟩) n 0 s (by omega) h0
  exact h
theorem at_lt {α : Type} {l : List α} {k : Nat} (h : k < l.length) : ∃ x, l[k]? = some x ∧ idx l (k : Int) = some x := ⟨l[k], List.getElem?_eq_getElem h, by rw [idx_nat, List.getElem?_eq_getElem h]⟩
theorem idx_pred {α : Type} {l : List α} {k : Nat} {x : α} (hk : 0 < k) (hb : k ≤ 9223372036854775807) (h : l[k - 1]? = some x) : idx l (IntKind.i64.wrap ((k : Int) - 1)) = some x := by
  rw [IntWalk.i64_in _ (by omega), show ((k : Int) - 1) = ((k - 1 : Nat) : Int) by omega, idx_nat, h]
theorem take_next {α : Type} {l : List α} {k : Nat} {x : α} (h : l[k]? = some x) : l.take (k + 1) = l.take k ++ [x] := by
  obtain ⟨hk, e⟩ := List.getElem?_eq_some_iff.1 h
  rw [List.take_succ_eq_append_getElem hk, e]
theorem all_next {α : Type} {p : α → Bool} {l : List α} {k : Nat} {x : α} (h : l[k]? = some x) : (l.take (k + 1)).all p = ((l.take k).all p && p x) := by
  rw [take_next h]; simp
theorem not_all {α : Type} {p : α → Bool} {l : List α} {k : Nat} {x : α} (h : l[k]? = some x) (hp : p x = false) : l.all p = false := by
  rw [Bool.eq_false_iff]
  intro ha
  have := List.all_eq_true.1 ha x (List.mem_of_getElem? h)
  rw [hp] at this; exact absurd this (by simp)
theorem wrap_in {x : Int} (h1 : -9223372036854775808 ≤ x) (h2 : x ≤ 9223372036854775807) : IntKind.i64.wrap x = x := IntWalk.i64_in _ (by omega)

/-- valid, and above the one ahead of it -/
def upAt {α : Type} (ok : α → Bool) (id : α → Int) (l : List α) (k : Nat) : Bool :=
  match l[k]? with
  | none => true
  | some s => ok s && (decide (k = 0) || (match l[k-1]? with | none => true | some r => decide (id r < id s)))
def upTo {α : Type} (ok : α → Bool) (id : α → Int) (l : List α) (k : Nat) : Bool := (List.range k).all (upAt ok id l)
theorem upTo_zero {α : Type} (ok : α → Bool) (id : α → Int) (l : List α) : upTo ok id l 0 = true := rfl
theorem upTo_succ {α : Type} (ok : α → Bool) (id : α → Int) (l : List α) (k : Nat) : upTo ok id l (k + 1) = (upTo ok id l k && upAt ok id l k) := by simp [upTo, List.range_succ, List.all_append]
theorem upTo_not {α : Type} {ok : α → Bool} {id : α → Int} {l : List α} {k n : Nat} (h : upAt ok id l k = false) (hk : k < n) : upTo ok id l n = false := by
  unfold upTo
  rw [Bool.eq_false_iff]
  intro ha
  have := List.all_eq_true.1 ha k (List.mem_range.2 hk)
  rw [h] at this; exact absurd this (by simp)
/-- a list of at most m valid records with rising ids -/
def upL {α : Type} (m : Nat) (ok : α → Bool) (id : α → Int) (l : List α) : Bool := decide (l.length ≤ m) && upTo ok id l l.length
theorem upAt_bad {α : Type} {ok : α → Bool} {id : α → Int} {l : List α} {k : Nat} {s : α} (hs : l[k]? = some s) (h : ok s = false) : upAt ok id l k = false := by unfold upAt; rw [hs]; simp [h]
theorem upAt_first {α : Type} {ok : α → Bool} {id : α → Int} {l : List α} {s : α} (hs : l[0]? = some s) (h : ok s = true) : upAt ok id l 0 = true := by unfold upAt; rw [hs]; simp [h]
theorem upAt_next {α : Type} {ok : α → Bool} {id : α → Int} {l : List α} {k : Nat} {s r : α} (hs : l[k]? = some s) (hr : l[k-1]? = some r) (hk : 0 < k) (h : ok s = true) : upAt ok id l k = decide (id r < id s) := by
  unfold upAt; rw [hs]; simp only [hr, h, Bool.true_and, decide_eq_false (show ¬ k = 0 by omega), Bool.false_or]
theorem upL_len {α : Type} {m : Nat} {ok : α → Bool} {id : α → Int} {l : List α} (h : upL m ok id l = true) : l.length ≤ m := by unfold upL at h; simp only [Bool.and_eq_true, decide_eq_true_eq] at h; exact h.1
theorem upL_ok {α : Type} {m : Nat} {ok : α → Bool} {id : α → Int} {l : List α} (h : upL m ok id l = true) {k : Nat} {s : α} (hs : l[k]? = some s) : ok s = true := by
  unfold upL at h
  simp only [Bool.and_eq_true, decide_eq_true_eq] at h
  have := List.all_eq_true.1 h.2 k (List.mem_range.2 (List.getElem?_eq_some_iff.1 hs).1)
  unfold upAt at this
  rw [hs] at this
  simp only [Bool.and_eq_true] at this
  exact this.1
theorem upL_mem {α : Type} {m : Nat} {ok : α → Bool} {id : α → Int} {l : List α} (h : upL m ok id l = true) {s : α} (hs : s ∈ l) : ok s = true := by
  obtain ⟨k, hk⟩ := List.getElem?_of_mem hs
  exact upL_ok h hk
/-- a loop that goes through a list of records and stops with 'false' at the first that is bad -/
theorem up_loop {α : Type} {ok : α → Bool} {id : α → Int} {l : List α} {R : Type} {no : R} {f : Nat → Unit → (Unit → Option R) → (Unit → Option R) → Option R} {fin : Unit → Option R}
    (step : ∀ k nx s, l[k]? = some s → (ok s = false → f k () nx fin = some no) ∧ (ok s = true → (k = 0 → f k () nx fin = nx ()) ∧ (0 < k → ∀ r, l[k-1]? = some r → (id r < id s → f k () nx fin = nx ()) ∧ (id s ≤ id r → f k () nx fin = some no)))) :
    cntK f l.length 0 () fin = if upTo ok id l l.length then fin () else some no := by
  have key : ∀ m k, k + m = l.length → upTo ok id l k = true → cntK f m k () fin = if upTo ok id l l.length then fin () else some no := by
    intro m
    induction m with
    | zero => intro k hk hu; obtain rfl : k = l.length := by omega
              rw [hu]; rfl
    | succ m ih =>
      intro k hk hu
      have hlt : k < l.length := by omega
      obtain ⟨s, hs, _⟩ := at_lt hlt
      obtain ⟨h1, h2⟩ := step k (fun s' => cntK f m (k + 1) s' fin) s hs
      show f k () _ fin = _
      cases hok : ok s with
      | false => rw [h1 hok, upTo_not (upAt_bad hs hok) hlt]; rfl
      | true =>
        obtain ⟨h3, h4⟩ := h2 hok
        by_cases hk0 : k = 0
        · rw [h3 hk0]
          subst hk0
          exact ih 1 (by omega) (by rw [upTo_succ, hu, upAt_first hs hok]; rfl)
        · obtain ⟨r, hr, _⟩ := at_lt (l := l) (k := k - 1) (by omega)
          obtain ⟨h5, h6⟩ := h4 (by omega) r hr
          by_cases hlt2 : id r < id s
          · rw [h5 hlt2]
            exact ih (k + 1) (by omega) (by rw [upTo_succ, hu, upAt_next hs hr (by omega) hok]; simpa using hlt2)
          · rw [h6 (by omega), upTo_not (by rw [upAt_next hs hr (by omega) hok]; simpa using hlt2) hlt]; rfl
  exact key l.length 0 (by omega) (upTo_zero ok id l)
end Go.Proofs.YtgimcnpkngpmiaaDoor.QLoop

/- Words: the tests of a word of the program and of the reference as plain functions. (QWord) No condition but those of each theorem. -/
namespace Go.Proofs.YtgimcnpkngpmiaaDoor.QWord
set_option linter.unusedVariables false
set_option linter.unusedSimpArgs false
open Go.RowKit
open Go.Proofs.YtgimcnpkngpmiaaDoor.GoP Go.Proofs.YtgimcnpkngpmiaaDoor.PlainStamp Go.Proofs.YtgimcnpkngpmiaaDoor.QBase Go.Proofs.YtgimcnpkngpmiaaDoor.QLoop

def small (b : UInt8) : Bool := decide (97 ≤ b.toNat ∧ b.toNat ≤ 122)
def wordB (s : ByteArray) : Bool := inB (s.size : Int) 1 10 && s.toList.all small
theorem size_list (s : ByteArray) : s.toList.length = s.size := by rw [Lib.toList_data]; rfl
theorem isLetter_eq (b : UInt8) : GiIsLetter.P (b.toNat : Int) = some (small b) := by
  simp only [GiIsLetter.P, letK, joinK, appK, iteK_if]
  unfold small
  by_cases h1 : 97 ≤ b.toNat
  · by_cases h2 : b.toNat ≤ 122
    · simp [h1, h2, show (97 : Int) ≤ b.toNat by omega, show (b.toNat : Int) ≤ 122 by omega]
    · simp [h1, h2, show (97 : Int) ≤ b.toNat by omega, show ¬ (b.toNat : Int) ≤ 122 by omega]
  · simp [h1, show ¬ (97 : Int) ≤ b.toNat by omega]
theorem isWord_eq (s : ByteArray) : GiIsWord.P s = some (wordB s) := by
  cases hb : inB (s.size : Int) 1 10 with
  | false => simp only [GiIsWord.P, within_eq, hb, Option.bind_some, letK, iteK_if, wordB]; rfl
  | true =>
    have h := inB_of hb
    simp only [GiIsWord.P, within_eq, hb, Option.bind_some, letK, iteK_if]
    rw [if_neg (by simp), guardK_pos (by omega)]
    refine cnt_is _ (fun k _ => (s.toList.take k).all small = true) ?_ ?_ () rfl
    · intro k u nx hk hI hn
      obtain ⟨y, hy, hi⟩ := at_lt (l := s.toList) (k := k) (by rw [size_list]; exact hk)
      simp only [GiIsWord.l0, hi, Option.bind_some, letK, joinK, appK, iteK_if, isLetter_eq]
      cases hs : small y with
      | false =>
        have : wordB s = false := by unfold wordB; rw [not_all hy hs, Bool.and_false]
        simp [this]
      | true => exact hn () (by rw [all_next hy, hI, hs]; rfl)
    · intro u hI
      rw [List.take_of_length_le (by rw [size_list]; exact Nat.le_refl _)] at hI
      simp [GiIsWord.e0, wordB, hb, hI]
theorem l2Word_eq (s : ByteArray) (hz : s.size ≤ 9223372036854775807) : GsL2Word.P s = some (wordB s) := by
  simp only [GsL2Word.P]
  rw [guardK_pos hz]
  refine cnt_is _ (fun k _ => (s.toList.take k).all small = true) ?_ ?_ () rfl
  · intro k u nx hk hI hn
    obtain ⟨y, hy, hi⟩ := at_lt (l := s.toList) (k := k) (by rw [size_list]; exact hk)
    simp only [GsL2Word.l0, hi, Option.bind_some, letK, joinK, appK, iteK_if]
    by_cases h1 : (y.toNat : Int) < 97
    · have : wordB s = false := by unfold wordB; rw [not_all hy (by unfold small; simp; omega), Bool.and_false]
      simp [h1, this]
    · by_cases h2 : (122 : Int) < (y.toNat : Int)
      · have : wordB s = false := by unfold wordB; rw [not_all hy (by unfold small; simp; omega), Bool.and_false]
        simp [h1, h2, this]
      · simp [h1, h2]
        exact hn () (by rw [all_next hy, hI]; unfold small; simp; omega)
  · intro u hI
    rw [List.take_of_length_le (by rw [size_list]; exact Nat.le_refl _)] at hI
    simp [GsL2Word.e0, wordB, l1In_eq, hI]
theorem word_len {s : ByteArray} (h : wordB s = true) : 1 ≤ s.size ∧ s.size ≤ 10 := by
  unfold wordB at h
  simp only [Bool.and_eq_true] at h
  have := inB_of h.1; omega
end Go.Proofs.YtgimcnpkngpmiaaDoor.QWord

/- Loops that test each place, and loops without a count. No condition. -/
namespace Go.Proofs.YtgimcnpkngpmiaaDoor.QAll
set_option linter.unusedVariables false
set_option linter.unusedSimpArgs false
open Go.RowKit
open Go.Proofs.YtgimcnpkngpmiaaDoor.GoP Go.Proofs.YtgimcnpkngpmiaaDoor.QBase Go.Proofs.YtgimcnpkngpmiaaDoor.QLoop

/-- each number below n is good -/
def allN (n : Nat) (p : Nat → Bool) : Bool := (List.range n).all p
theorem allN_iff {n : Nat} {p : Nat → Bool} : allN n p = true ↔ ∀ i, i < n → p i = true := by unfold allN; simp
theorem allN_no {n k : Nat} {p : Nat → Bool} (hk : k < n) (h : p k = false) : allN n p = false := by
  rw [Bool.eq_false_iff]; intro ha; rw [allN_iff.1 ha k hk] at h; exact absurd h (by simp)
theorem all_cnt {ρ : Type} {n : Nat} {p : Nat → Bool} {no : ρ} {f : Nat → Unit → (Unit → Option ρ) → (Unit → Option ρ) → Option ρ} {fin : Unit → Option ρ}
    (step : ∀ k nx, k < n → (p k = false → f k () nx fin = some no) ∧ (p k = true → f k () nx fin = nx ())) : cntK f n 0 () fin = if allN n p = true then fin () else some no := by
  have key : ∀ m k, k + m = n → (∀ i, i < k → p i = true) → cntK f m k () fin = if allN n p = true then fin () else some no := by
    intro m
    induction m with
    | zero => intro k hk hu; obtain rfl : k = n := by omega
              rw [allN_iff.2 hu]; rfl
    | succ m ih =>
      intro k hk hu
      obtain ⟨h1, h2⟩ := step k (fun s' => cntK f m (k + 1) s' fin) (by omega)
      show f k () _ fin = _
      cases hp : p k with
      | false => rw [h1 hp, allN_no (by omega) hp]; rfl
      | true =>
        rw [h2 hp]
        refine ih (k + 1) (by omega) (fun i hi => ?_)
        by_cases he : i = k
        · rw [he]; exact hp
        · exact hu i (by omega)
  exact key n 0 (by omega) (fun i hi => by omega)
theorem lp_ex {σ ρ : Type} {f : σ → (σ → Option ρ) → (σ → Option ρ) → Option ρ} {fin : σ → Option ρ} {Q : ρ → Prop} {n : Nat} (I : Nat → σ → Prop)
    (step : ∀ k s nx, k < n → I k s → (∀ s', I (k + 1) s' → ∃ r, nx s' = some r ∧ Q r) → ∃ r, f s nx fin = some r ∧ Q r) (done : ∀ s nx, I n s → ∃ r, f s nx fin = some r ∧ Q r) :
    ∀ fuel k s, k ≤ n → n - k < fuel → I k s → ∃ r, loopK f fuel s fin = some r ∧ Q r := by
  intro fuel
  induction fuel with
  | zero => intro k s hk hf; omega
  | succ m ih =>
    intro k s hk hf hI
    show ∃ r, f s _ fin = some r ∧ Q r
    by_cases he : k = n
    · subst he; exact done s _ hI
    · exact step k s _ (by omega) hI (fun s' h' => ih (k + 1) s' (by omega) (by omega) h')
end Go.Proofs.YtgimcnpkngpmiaaDoor.QAll

/- Rising rows: what a rising row gives; loops that sum; loops from one on. No condition. -/
namespace Go.Proofs.YtgimcnpkngpmiaaDoor.QUp
set_option linter.unusedVariables false
set_option linter.unusedSimpArgs false
open Go.RowKit
open Go.Proofs.YtgimcnpkngpmiaaDoor.GoP Go.Proofs.YtgimcnpkngpmiaaDoor.QBase Go.Proofs.YtgimcnpkngpmiaaDoor.QLoop Go.Proofs.YtgimcnpkngpmiaaDoor.QAll

/-- a loop with fuel, from k on, by an invariant -/
theorem lp_is {σ ρ : Type} {f : σ → (σ → Option ρ) → (σ → Option ρ) → Option ρ} {fin : σ → Option ρ} {n : Nat} (r : ρ) (I : Nat → σ → Prop)
    (step : ∀ k s nx, k < n → I k s → (∀ s', I (k + 1) s' → nx s' = some r) → f s nx fin = some r) (done : ∀ s nx, I n s → f s nx fin = some r) (fuel : Nat) (k : Nat) (s : σ) (hk : k ≤ n) (hf : n - k < fuel) (hI : I k s) : loopK f fuel s fin = some r := by
  obtain ⟨r', h, rfl⟩ := lp_ex (Q := fun x => x = r) I (fun k s nx hk hI hn => ⟨r, step k s nx hk hI (fun s' h' => by obtain ⟨_, h, rfl⟩ := hn s' h'; exact h), rfl⟩) (fun s nx h => ⟨r, done s nx h, rfl⟩) fuel k s hk hf hI
  exact h
end Go.Proofs.YtgimcnpkngpmiaaDoor.QUp

/- Chapter 11: postmarks: the plain functions of the program and of the reference agree, and the laws answer true. (QByte) No condition but those of each theorem. -/
namespace Go.Proofs.YtgimcnpkngpmiaaDoor.QByte
set_option linter.unusedVariables false
set_option linter.unusedSimpArgs false
open Go.RowKit
open Go.Proofs.YtgimcnpkngpmiaaDoor.GoP Go.Proofs.YtgimcnpkngpmiaaDoor.PlainStamp Go.Proofs.YtgimcnpkngpmiaaDoor.QBase Go.Proofs.YtgimcnpkngpmiaaDoor.QLoop

/-- the text of these bytes -/
def bs (l : List UInt8) : ByteArray := ⟨l.toArray⟩
theorem bs_size (l : List UInt8) : (bs l).size = l.length := by unfold bs; show l.toArray.size = _; rw [List.size_toArray]
theorem bs_list (l : List UInt8) : (bs l).toList = l := by rw [Lib.toList_data]; simp [bs]
theorem bs_app (a b : List UInt8) : bs a ++ bs b = bs (a ++ b) := by
  apply ByteArray.ext; simp [bs]
theorem bs_cut (l : List UInt8) (i j : Nat) : (bs l).extract i j = bs ((l.take j).drop i) := by
  apply ByteArray.ext
  simp [bs, List.drop_take]
theorem bs_of (s : ByteArray) : bs s.toList = s := by
  apply ByteArray.ext; rw [Lib.toList_data]; simp [bs]
theorem toList_size (s : ByteArray) : s.toList.length = s.size := by rw [Lib.toList_data]; rfl
def toI (l : List UInt8) : List Int := l.map fun b => (b.toNat : Int)
theorem byte_eq (b c : UInt8) : ((b.toNat : Int) == (c.toNat : Int)) = (b == c) := by
  rw [Bool.eq_iff_iff, beq_iff_eq, beq_iff_eq]
  constructor
  · intro h; exact UInt8.toNat.inj (by omega)
  · intro h; rw [h]
end Go.Proofs.YtgimcnpkngpmiaaDoor.QByte

/- Chapter 11: postmarks: the plain functions of the program and of the reference agree, and the laws answer true. (Q11Mark) No condition but those of each theorem. -/
namespace Go.Proofs.YtgimcnpkngpmiaaDoor.Q11Mark
set_option linter.unusedVariables false
set_option linter.unusedSimpArgs false
open Go.RowKit
open Go.Proofs.YtgimcnpkngpmiaaDoor.GoP Go.Proofs.YtgimcnpkngpmiaaDoor.PlainStamp Go.Proofs.YtgimcnpkngpmiaaDoor.QBase Go.Proofs.YtgimcnpkngpmiaaDoor.QUp Go.Proofs.YtgimcnpkngpmiaaDoor.QByte Go.Proofs.YtgimcnpkngpmiaaDoor.QWord Go.Proofs.YtgimcnpkngpmiaaDoor.QLoop Go.Proofs.YtgimcnpkngpmiaaDoor.PPostmark

def isSign (b : UInt8) : Bool := b == 46 || b == 120
def lossB (lost town : ByteArray) : Bool := decide (lost.size = town.size) && (lost.toList.all isSign && lost.toList.any fun b => b == 46)
theorem count_split (l : List UInt8) : Lib.countByte l 46 + Lib.countByte l 120 ≤ l.length ∧ (Lib.countByte l 46 + Lib.countByte l 120 = l.length ↔ l.all isSign = true) ∧ (0 < Lib.countByte l 46 ↔ l.any (fun b => b == 46) = true) := by
  induction l with
  | nil => simp [Lib.countByte]
  | cons b l ih =>
    obtain ⟨h1, h2, h3⟩ := ih
    have e : ∀ x : UInt8, Lib.countByte (b :: l) x = Lib.countByte l x + (if b = x then 1 else 0) := by
      intro x
      simp only [Lib.countByte, List.count_cons]
      by_cases hb : b = x <;> simp [hb]
    rw [e, e, List.length_cons, List.all_cons, List.any_cons]
    by_cases ha : b = 46
    · subst ha
      rw [if_pos rfl, if_neg (by decide)]
      refine ⟨by omega, ?_, by simp⟩
      rw [show isSign 46 = true from rfl, Bool.true_and, ← h2]
      omega
    · rw [if_neg ha, show (b == 46) = false by simpa using ha, Bool.false_or, ← h3]
      by_cases hb : b = 120
      · subst hb
        rw [if_pos rfl]
        refine ⟨by omega, ?_, by simp⟩
        rw [show isSign 120 = true from rfl, Bool.true_and, ← h2]
        omega
      · rw [if_neg hb]
        refine ⟨by omega, ?_, by simp⟩
        have : isSign b = false := by simp [isSign, ha, hb]
        rw [this]; simp; omega
theorem isLoss_eq (lost town : ByteArray) (h1 : lost.size ≤ 9223372036854775807) : GiIsLoss.P lost town = some (lossB lost town) := by
  obtain ⟨c1, c2, c3⟩ := count_split lost.toList
  have hsz := size_list lost
  have e1 : GxStringsCount.P lost ⟨#[46]⟩ = some (Lib.countByte lost.toList 46 : Int) := by rw [Lib.toList_data]; rfl
  have e2 : GxStringsCount.P lost ⟨#[120]⟩ = some (Lib.countByte lost.toList 120 : Int) := by rw [Lib.toList_data]; rfl
  have hw := wrap_in (x := (Lib.countByte lost.toList 46 : Int) + (Lib.countByte lost.toList 120 : Int)) (by omega) (by omega)
  simp only [GiIsLoss.P, e1, e2, hw, Option.bind_some, letK, joinK, appK, iteK_if, lossB]
  rw [hsz] at c2
  by_cases h3 : lost.size = town.size
  · rw [if_pos (by simp; omega)]
    by_cases h4 : 0 < Lib.countByte lost.toList 46
    · rw [decide_eq_true (show (0 : Int) < (Lib.countByte lost.toList 46 : Int) by omega), if_pos rfl, c3.1 h4, Bool.and_true, decide_eq_true h3, Bool.true_and]
      congr 1
      rw [Bool.eq_iff_iff, ← c2, beq_iff_eq]; omega
    · have : (lost.toList.any fun b => b == 46) = false := by rw [Bool.eq_false_iff]; exact fun h => h4 (c3.2 h)
      rw [decide_eq_false (show ¬ (0 : Int) < (Lib.countByte lost.toList 46 : Int) by omega), if_neg (by simp), this, Bool.and_false, Bool.and_false]
  · rw [if_neg (by simp; omega), decide_eq_false h3, Bool.false_and]; simp
theorem isDay_eq (n : Int) : GiIsDay.P n = some (inB n 0 4000) := by simp only [GiIsDay.P, within_eq, Option.bind_some]
theorem l2Day_eq (n : Int) : GsL2Day.P n = some (inB n 0 4000) := by simp only [GsL2Day.P, l1In_eq, Option.bind_some]
def okPm (p : Postmark) : Bool := inB p.id 1 999 && wordB p.town && inB p.kind_ 1 5 && inB p.first 0 4000 && inB p.last 0 4000 && decide (p.first ≤ p.last) && lossB p.lost p.town
theorem fits_sz {p : Postmark} (h : p.fits) : p.town.size ≤ 9223372036854775807 ∧ p.lost.size ≤ 9223372036854775807 := by
  obtain ⟨a, b, c, d, e, g⟩ := p
  obtain ⟨_, h1, _, _, _, h2⟩ := h
  unfold maxLen at h1 h2
  exact ⟨h1, h2⟩
theorem isPostmark_eq (p : Postmark) (h : p.lost.size ≤ 9223372036854775807) : GiIsPostmark.P p = some (okPm p) := by
  obtain ⟨a, b, c, d, e, g⟩ := p
  simp only [GiIsPostmark.P, unPostmark, isWord_eq, isDay_eq, isLoss_eq g b h, within_eq, Option.bind_some, letK, joinK, appK, iteK_if, okPm]
  cases inB a 1 999 <;> cases wordB b <;> cases inB c 1 5 <;> cases inB d 0 4000 <;> cases inB e 0 4000 <;> cases decide (d ≤ e) <;> simp
theorem l11One_eq (p : Postmark) (h : p.fits) (fuel : Nat) (hfu : 100 ≤ fuel) : GsL11One.P fuel p = some (okPm p) := by
  obtain ⟨hz, hzl⟩ := fits_sz h
  obtain ⟨a, b, c, d, e, g⟩ := p
  have hx : (inB e 0 4000 && inB d 0 e) = (inB d 0 4000 && inB e 0 4000 && decide (d ≤ e)) := by unfold inB; rw [Bool.eq_iff_iff]; simp; omega
  have hy : okPm ⟨a, b, c, d, e, g⟩ = (inB a 1 999 && wordB b && inB c 1 5 && (inB e 0 4000 && inB d 0 e) && lossB g b) := by rw [hx]; simp [okPm, Bool.and_assoc]
  rw [hy]
  simp only [GsL11One.P, unPostmark, l2Word_eq b hz, l2Day_eq, l1In_eq, Option.bind_some, letK, joinK, appK, iteK_if]
  cases inB a 1 999 with
  | false => simp
  | true =>
    cases hw : wordB b with
    | false => simp
    | true =>
      cases inB c 1 5 with
      | false => simp
      | true =>
        cases inB e 0 4000 with
        | false => simp
        | true =>
          cases inB d 0 e with
          | false => simp
          | true =>
            have hwl := word_len hw
            by_cases h3 : g.size = b.size
            · have hne : ((g.size : Int) != (b.size : Int)) = false := by simp; omega
              simp only [hne, Bool.not_true, Bool.false_eq_true, if_false, Bool.and_true, Bool.true_and, lossB, decide_eq_true h3]
              refine lp_is (n := g.size) _ (fun k (s : Bool × Int) => s = ((g.toList.take k).any (fun b => b == 46), (k : Int)) ∧ (g.toList.take k).all isSign = true) ?_ ?_ fuel 0 _ (by omega) (by omega) ⟨rfl, rfl⟩
              · rintro k s nx hk ⟨rfl, hall⟩ hn
                obtain ⟨y, hy, hi⟩ := at_lt (l := g.toList) (k := k) (by rw [size_list]; exact hk)
                have hw1 := wrap_in (x := (k : Int) + 1) (by omega) (by omega)
                have hany : (g.toList.take (k + 1)).any (fun b => b == 46) = ((g.toList.take k).any (fun b => b == 46) || (y == 46)) := by rw [take_next hy, List.any_append]; simp
                have e46 : ((y.toNat : Int) == 46) = (y == 46) := byte_eq y 46
                have n46 : ((y.toNat : Int) != 46) = !(y == 46) := by rw [← e46]; rfl
                have n120 : ((y.toNat : Int) != 120) = !(y == 120) := by rw [← byte_eq y 120]; rfl
                simp only [GsL11One.l0, unp2, letK, joinK, appK, iteK_if, hi, hw1, Option.bind_some, e46, n46, n120]
                rw [if_pos (by simp; omega)]
                cases hs : isSign y with
                | false =>
                  have h46 : (y == 46) = false := by unfold isSign at hs; simp only [Bool.or_eq_false_iff] at hs; exact hs.1
                  have h120 : (y == 120) = false := by unfold isSign at hs; simp only [Bool.or_eq_false_iff] at hs; exact hs.2
                  rw [not_all hy hs]
                  simp [h46, h120]
                | true =>
                  have hnn := hn ((g.toList.take (k + 1)).any (fun b => b == 46), ((k + 1 : Nat) : Int)) ⟨rfl, by rw [all_next hy, hall, hs]; rfl⟩
                  rw [hany, show ((k + 1 : Nat) : Int) = (k : Int) + 1 by omega] at hnn
                  have hsg : (!(y == 46) && !(y == 120)) = false := by unfold isSign at hs; cases h46 : (y == 46) <;> simp_all
                  cases h46 : (y == 46) with
                  | true =>
                    rw [h46] at hnn
                    cases hh : (g.toList.take k).any (fun b => b == 46) <;> simp_all
                  | false =>
                    rw [h46] at hnn
                    have h120 : (y == 120) = true := by rw [h46] at hsg; simpa using hsg
                    cases hh : (g.toList.take k).any (fun b => b == 46) <;> simp_all
              · rintro s nx ⟨rfl, hall⟩
                have hfull : g.toList.take g.size = g.toList := List.take_of_length_le (by rw [size_list]; exact Nat.le_refl _)
                rw [hfull] at hall
                simp only [GsL11One.l0, unp2, letK, iteK_if, appK, GsL11One.e0]
                rw [if_neg (by simp), hfull, hall]; simp
            · have hne : ((g.size : Int) != (b.size : Int)) = true := by simp; omega
              simp [hne, lossB, h3]
theorem okPm_of {p : Postmark} (h : okPm p = true) : (1 ≤ p.id ∧ p.id ≤ 999) ∧ wordB p.town = true ∧ (1 ≤ p.kind_ ∧ p.kind_ ≤ 5) ∧ (0 ≤ p.first ∧ p.first ≤ 4000) ∧ (0 ≤ p.last ∧ p.last ≤ 4000) ∧ p.first ≤ p.last ∧ lossB p.lost p.town = true := by
  unfold okPm at h
  simp only [Bool.and_eq_true, decide_eq_true_eq] at h
  obtain ⟨⟨⟨⟨⟨⟨h1, h2⟩, h3⟩, h4⟩, h5⟩, h6⟩, h7⟩ := h
  exact ⟨inB_of h1, h2, inB_of h3, inB_of h4, inB_of h5, h6, h7⟩
theorem okPm_size {p : Postmark} (h : okPm p = true) : p.lost.size = p.town.size ∧ 1 ≤ p.town.size ∧ p.town.size ≤ 10 := by
  obtain ⟨_, h2, _, _, _, _, h7⟩ := okPm_of h
  have := word_len h2
  unfold lossB at h7
  simp only [Bool.and_eq_true, decide_eq_true_eq] at h7
  exact ⟨h7.1, this⟩
end Go.Proofs.YtgimcnpkngpmiaaDoor.Q11Mark

/- Chapter 11: postmarks: the plain functions of the program and of the reference agree, and the laws answer true. (Q11Show) No condition but those of each theorem. -/
namespace Go.Proofs.YtgimcnpkngpmiaaDoor.Q11Show
set_option linter.unusedVariables false
set_option linter.unusedSimpArgs false
open Go.RowKit
open Go.Proofs.YtgimcnpkngpmiaaDoor.GoP Go.Proofs.YtgimcnpkngpmiaaDoor.PlainStamp Go.Proofs.YtgimcnpkngpmiaaDoor.QBase Go.Proofs.YtgimcnpkngpmiaaDoor.Q11Mark Go.Proofs.YtgimcnpkngpmiaaDoor.QUp Go.Proofs.YtgimcnpkngpmiaaDoor.QAll Go.Proofs.YtgimcnpkngpmiaaDoor.QByte Go.Proofs.YtgimcnpkngpmiaaDoor.QWord Go.Proofs.YtgimcnpkngpmiaaDoor.QLoop Go.Proofs.YtgimcnpkngpmiaaDoor.PPostmark

def sh (t b : UInt8) : UInt8 := if b = 120 then 63 else t
def shL (p : Postmark) : List UInt8 := List.zipWith sh p.town.toList p.lost.toList
def shown (p : Postmark) : ByteArray := bs (shL p)
theorem shL_at {p : Postmark} {k : Nat} {t b : UInt8} (ht : p.town.toList[k]? = some t) (hb : p.lost.toList[k]? = some b) : (shL p)[k]? = some (sh t b) := by
  unfold shL; rw [List.getElem?_zipWith, ht, hb]
theorem shL_len {p : Postmark} (h : p.lost.size = p.town.size) : (shL p).length = p.town.size := by
  unfold shL; rw [List.length_zipWith, toList_size, toList_size]; omega
theorem shown_size {p : Postmark} (h : p.lost.size = p.town.size) : (shown p).size = p.town.size := by unfold shown; rw [bs_size, shL_len h]
theorem strK_toI (l : List UInt8) : Go.Proofs.YtgimcnpkngpmiaaDoor.GoB.strK (toI l) = bs l := by
  unfold Go.Proofs.YtgimcnpkngpmiaaDoor.GoB.strK toI bs
  rw [List.map_map]
  have : ((fun z : Int => UInt8.ofNat z.toNat) ∘ fun b : UInt8 => (b.toNat : Int)) = id := by
    funext b; simp
  rw [this, List.map_id]
theorem shown_impl {p : Postmark} (h : p.lost.size = p.town.size) (h10 : p.town.size ≤ 1000) : GiLoShownBy.P p = some (shown p) := by
  obtain ⟨q, hq⟩ : ∃ q, p = q := ⟨_, rfl⟩
  obtain ⟨a, b, c, d, e, g⟩ := p
  dsimp only at h h10
  simp only [GiLoShownBy.P, unPostmark, letK]
  rw [guardK_pos (by omega), List.length_map, toList_size]
  refine cnt_is _ (fun k s => s = toI ((shL ⟨a, b, c, d, e, g⟩).take k ++ b.toList.drop k)) ?_ ?_ _ (by simp [toI])
  · intro k s nx hk hI hn
    obtain ⟨t, ht, _⟩ := at_lt (l := b.toList) (k := k) (by rw [toList_size]; omega)
    obtain ⟨y, hy, hyi⟩ := at_lt (l := g.toList) (k := k) (by rw [toList_size]; omega)
    have hs := shL_at (p := ⟨a, b, c, d, e, g⟩) ht hy
    have hlen := shL_len (p := ⟨a, b, c, d, e, g⟩) h
    dsimp only at hlen
    obtain ⟨hk1, e1⟩ := List.getElem?_eq_some_iff.1 ht
    have hdrop : b.toList.drop k = t :: b.toList.drop (k + 1) := by rw [List.drop_eq_getElem_cons hk1, e1]
    rw [hdrop] at hI
    have hl1 : (toI ((shL ⟨a, b, c, d, e, g⟩).take k)).length = k := by unfold toI; rw [List.length_map, List.length_take]; omega
    have hI' : s = toI ((shL ⟨a, b, c, d, e, g⟩).take k) ++ ((t.toNat : Int) :: toI (b.toList.drop (k + 1))) := by rw [hI]; simp [toI]
    have e120 : ((y.toNat : Int) == 120) = (y == 120) := byte_eq y 120
    simp only [GiLoShownBy.l0, letK, hyi, Option.bind_some, iteK_if, e120]
    cases h120 : (y == 120) with
    | true =>
      have hat : idx s (k : Int) = some (t.toNat : Int) := by rw [idx_nat, hI', List.getElem?_append_right (by omega), hl1]; simp
      rw [if_pos rfl]
      simp only [hat, Option.bind_some, appK]
      refine hn _ ?_
      rw [hI', List.set_append_right _ _ (by omega), hl1, take_next hs]
      have : sh t y = 63 := by unfold sh; rw [if_pos (by simpa using h120)]
      rw [this]; simp [toI]
    | false =>
      rw [if_neg (by simp)]
      simp only [appK]
      refine hn _ ?_
      rw [hI, take_next hs]
      have : sh t y = t := by unfold sh; rw [if_neg (by simpa using h120)]
      rw [this]; simp
  · intro s hI
    have hlen := shL_len (p := ⟨a, b, c, d, e, g⟩) h
    dsimp only at hlen
    rw [List.take_of_length_le (by omega), List.drop_of_length_le (by rw [toList_size]; omega), List.append_nil] at hI
    simp only [GiLoShownBy.e0, letK, hI, strK_toI]; rfl
theorem shown_spec {p : Postmark} (h : p.lost.size = p.town.size) (h10 : p.town.size ≤ 10) (fuel : Nat) (hfu : 100 ≤ fuel) : GsL11Shown.P fuel p = some (shown p) := by
  obtain ⟨a, b, c, d, e, g⟩ := p
  dsimp only at h h10
  have hlen := shL_len (p := ⟨a, b, c, d, e, g⟩) h
  dsimp only at hlen
  simp only [GsL11Shown.P, unPostmark]
  refine lp_is (n := b.size) _ (fun k (s : ByteArray × Int) => s = (bs ((shL ⟨a, b, c, d, e, g⟩).take k), (k : Int))) ?_ ?_ fuel 0 _ (by omega) (by omega) rfl
  · rintro k s nx hk rfl hn
    obtain ⟨t, ht, _⟩ := at_lt (l := b.toList) (k := k) (by rw [toList_size]; omega)
    obtain ⟨y, hy, hyi⟩ := at_lt (l := g.toList) (k := k) (by rw [toList_size]; omega)
    have hs := shL_at (p := ⟨a, b, c, d, e, g⟩) ht hy
    have e120 : ((y.toNat : Int) == 120) = (y == 120) := byte_eq y 120
    have hw1 := wrap_in (x := (k : Int) + 1) (by omega) (by omega)
    have hsz : (bs ((shL ⟨a, b, c, d, e, g⟩).take k)).size ≤ 10 := by rw [bs_size, List.length_take]; omega
    simp only [GsL11Shown.l0, unp2, letK, hyi, Option.bind_some, iteK_if, e120, hw1, appK]
    rw [if_pos (by simp; omega)]
    cases h120 : (y == 120) with
    | true =>
      have hone : (⟨#[63]⟩ : ByteArray).size = 1 := rfl
      rw [if_pos rfl, guardK_pos (by rw [hone]; unfold maxLen; omega)]
      refine hn _ ?_
      have : sh t y = 63 := by unfold sh; rw [if_pos (by simpa using h120)]
      rw [take_next hs, this, ← bs_app]; rfl
    | false =>
      have hex : b.extract k (k + 1) = bs [t] := by
        have h1 : (bs b.toList).extract k (k + 1) = bs [t] := by
          rw [bs_cut, take_next ht, List.drop_left' (by rw [List.length_take, toList_size]; omega)]
        rw [bs_of] at h1; exact h1
      rw [if_neg (by simp), guardK_pos (by omega), show Int.toNat (k : Int) = k by omega, show Int.toNat ((k : Int) + 1) = k + 1 by omega, hex]
      have hone : (bs [t]).size = 1 := bs_size _
      rw [guardK_pos (by rw [hone]; unfold maxLen; omega), bs_app]
      refine hn _ ?_
      have : sh t y = t := by unfold sh; rw [if_neg (by simpa using h120)]
      rw [take_next hs, this]; rfl
  · rintro s nx rfl
    simp only [GsL11Shown.l0, unp2, letK, iteK_if, appK, GsL11Shown.e0]
    rw [if_neg (by simp), List.take_of_length_le (by omega)]; rfl
def shownRes (p : Postmark) : ByteArray × Bool := if okPm p = true then (shown p, true) else (⟨#[]⟩, false)
end Go.Proofs.YtgimcnpkngpmiaaDoor.Q11Show

