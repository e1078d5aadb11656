/- Texts on which the proofs of several laws stand, one behind the other (15 of 21). No condition of their own. -/
import Derived.Test.YtlljmgphgmklcaaChecked
import Derived.Test.YtlljmgphgmklcaaC10P1
import Derived.WalkKit
import Derived.WalkSpells
import Derived.WalkLawsBesides
import Derived.BigQuiet
import Derived.OwnWalk
import Derived.Deep.LoopGhost
import Derived.Deep.QuietTactic
import Derived.IntWalk
import Derived.Lib.QuietBelow
/- loop.example/g01062/spec.FaultText as a plain function, and the contract of the program's: where the plain one has an answer, the program has it. Conditions: slices read as lists. -/
namespace Go.Proofs.Ytlljmgphgmklcaa.GsFaultText
set_option linter.unusedVariables false
set_option linter.unusedSimpArgs false
open Go.RowKit
open Go.Proofs.Ytlljmgphgmklcaa.Rowed Go.Proofs.Ytlljmgphgmklcaa.Turn Go.Proofs.Ytlljmgphgmklcaa.Aid Go.Proofs.Ytlljmgphgmklcaa.GoP Go.Proofs.Ytlljmgphgmklcaa.GoM

def P (fault : Int) : Option (ByteArray × Bool) :=
  Option.bind (Go.Proofs.Ytlljmgphgmklcaa.GsL1In.P fault 0 5) fun (t_3 : Bool) =>
  letK (!t_3) fun (t_4 : Bool) =>
  iteK t_4
  (some ((⟨#[]⟩ : ByteArray), false))
  (letK ([(⟨#[116, 114, 117, 101]⟩ : ByteArray), (⟨#[122, 111, 110, 101]⟩ : ByteArray), (⟨#[115, 104, 111, 114, 116]⟩ : ByteArray), (⟨#[111, 118, 101, 114]⟩ : ByteArray), (⟨#[114, 111, 117, 116, 101]⟩ : ByteArray), (⟨#[101, 97, 114, 108, 121]⟩ : ByteArray)]) fun (t_7 : (List ByteArray)) =>
  Option.bind (idx t_7 fault) fun (yt_9 : ByteArray) =>
  some (yt_9, true))

set_option maxRecDepth 100000 in
set_option maxHeartbeats 2000000 in
theorem C (fault : Int)   (w : World)   {r0 : ByteArray} {r1 : Bool} (H : Hid (P fault = some (r0, r1))) :
    Calls Try.prog 51 #[.int .i64 fault] w (Gives (.tuple #[.string r0, .bool r1]) w) := by
  have HB := Lib.hid (Below.refl w.heap.size w)
  unfold P at H
  go_enter Try.func51, Try.ntmps51
  replace H := bind_hid H
  obtain ⟨t_3, qt_3, H⟩ := H
  go_wp2_with fail
  go_at_call 113
  refine (Go.Proofs.Ytlljmgphgmklcaa.GsL1In.C (fault) (0) (5)  _    qt_3).mono ?_
  rintro e_t_3 wt_3 ⟨rfl, bt_3⟩
  have HBwt_3 := Lib.hid (Below.step HB.out bt_3)
  clear bt_3
  cases t_3 with
  | false =>
    replace H := let_hid H
    obtain ⟨t_4, ht_4, H⟩ := H
    obtain rfl : t_4 = true := ht_4.symm
    replace H := ite_t H
    cases ret_hid H
    go_wp2_with fail
    go_ret2
    exact ⟨rfl, HBwt_3.out⟩
  | true =>
    replace H := let_hid H
    obtain ⟨t_4, ht_4, H⟩ := H
    obtain rfl : t_4 = false := ht_4.symm
    replace H := ite_f H
    replace H := let_hid H
    obtain ⟨t_7, ht_7, H⟩ := H
    obtain ⟨w_t_7, hw_t_7⟩ : ∃ x, wt_3.alloc (.cells #[.string (⟨#[116, 114, 117, 101]⟩ : ByteArray), .string (⟨#[122, 111, 110, 101]⟩ : ByteArray), .string (⟨#[115, 104, 111, 114, 116]⟩ : ByteArray), .string (⟨#[111, 118, 101, 114]⟩ : ByteArray), .string (⟨#[114, 111, 117, 116, 101]⟩ : ByteArray), .string (⟨#[101, 97, 114, 108, 121]⟩ : ByteArray)] 9) = x := ⟨_, rfl⟩
    have bw_t_7 : Below wt_3.heap.size wt_3 w_t_7 := by rw [← hw_t_7]; exact (Below.refl _ _).alloc (Nat.le_refl _) _
    have hs_t_7 := HBwt_3.out.size
    have nt_7 : t_7.length = 6 := by rw [← ht_7]; rfl
    have Ot_7 : Hid (w_t_7.ownsRow w.heap.size 9 1 (.slice (some ⟨wt_3.heap.size, 0, none⟩) 6 6) 6 (t_7.map Value.string)) := by
      rw [← hw_t_7, ← ht_7]
      have e_ : ([.string (⟨#[116, 114, 117, 101]⟩ : ByteArray), .string (⟨#[122, 111, 110, 101]⟩ : ByteArray), .string (⟨#[115, 104, 111, 114, 116]⟩ : ByteArray), .string (⟨#[111, 118, 101, 114]⟩ : ByteArray), .string (⟨#[114, 111, 117, 116, 101]⟩ : ByteArray), .string (⟨#[101, 97, 114, 108, 121]⟩ : ByteArray)] : List Value) = (([(⟨#[116, 114, 117, 101]⟩ : ByteArray), (⟨#[122, 111, 110, 101]⟩ : ByteArray), (⟨#[115, 104, 111, 114, 116]⟩ : ByteArray), (⟨#[111, 118, 101, 114]⟩ : ByteArray), (⟨#[114, 111, 117, 116, 101]⟩ : ByteArray), (⟨#[101, 97, 114, 108, 121]⟩ : ByteArray)] : List ByteArray).map Value.string) := rfl
      exact Lib.hid (own_laid (n := 6) hs_t_7 e_ rfl (by unfold maxLen; omega))
    clear hs_t_7
    have hht_7 := Lib.hid ht_7
    clear ht_7
    replace nt_7 := Lib.hid nt_7
    have HBw_t_7 := Lib.hid (Below.step HBwt_3.out bw_t_7)
    clear bw_t_7
    replace H := idx_hid H
    obtain ⟨nt_9, yt_9, et_9, lt_9, gt_9, H⟩ := H
    subst et_9
    have hqt_9 := nt_7.out
    obtain ⟨ab_t_9, ao_t_9, zt_9, At_9, z_t_9, ct_9_0⟩ := strs_at (own_cells Ot_7.out) (k := nt_9) (by omega)
    obtain rfl := Option.some.inj (gt_9.out.symm.trans z_t_9)
    simp only [Option.some.injEq, Addr.mk.injEq] at At_9
    obtain ⟨rfl, rfl, _⟩ := At_9
    clear z_t_9
    simp only [Nat.zero_add] at ct_9_0
    have b0t_9 : (0 : Int) ≤ (nt_9 : Int) := by omega
    have b1t_9 : (nt_9 : Int) < ((6 : Nat) : Int) := by omega
    have b2t_9 : ((nt_9 : Int)).toNat = nt_9 := by omega
    clear hqt_9
    cases ret_hid H
    go_wp2_with fail
    go_ret2
    exact ⟨rfl, HBw_t_7.out⟩
end Go.Proofs.Ytlljmgphgmklcaa.GsFaultText

/- loop.example/g01062/impl.FaultText as a plain function, and the contract of the program's: where the plain one has an answer, the program has it. Conditions: slices read as lists. -/
namespace Go.Proofs.Ytlljmgphgmklcaa.GiFaultText
set_option linter.unusedVariables false
set_option linter.unusedSimpArgs false
open Go.RowKit
open Go.Proofs.Ytlljmgphgmklcaa.Rowed Go.Proofs.Ytlljmgphgmklcaa.Turn Go.Proofs.Ytlljmgphgmklcaa.Aid Go.Proofs.Ytlljmgphgmklcaa.GoP Go.Proofs.Ytlljmgphgmklcaa.GoM

def P (fault : Int) : Option (ByteArray × Bool) :=
  Option.bind (Go.Proofs.Ytlljmgphgmklcaa.GiWithin.P fault 0 5) fun (t_3 : Bool) =>
  letK (!t_3) fun (t_4 : Bool) =>
  iteK t_4
  (some ((⟨#[]⟩ : ByteArray), false))
  (Option.bind (idx [(⟨#[116, 114, 117, 101]⟩ : ByteArray), (⟨#[122, 111, 110, 101]⟩ : ByteArray), (⟨#[115, 104, 111, 114, 116]⟩ : ByteArray), (⟨#[111, 118, 101, 114]⟩ : ByteArray), (⟨#[114, 111, 117, 116, 101]⟩ : ByteArray), (⟨#[101, 97, 114, 108, 121]⟩ : ByteArray)] fault) fun (yt_9 : ByteArray) =>
  some (yt_9, true))

set_option maxRecDepth 100000 in
set_option maxHeartbeats 2000000 in
theorem C (fault : Int)   (w : World)   {r0 : ByteArray} {r1 : Bool} (H : Hid (P fault = some (r0, r1))) :
    Calls Try.prog 52 #[.int .i64 fault] w (Gives (.tuple #[.string r0, .bool r1]) w) := by
  have HB := Lib.hid (Below.refl w.heap.size w)
  unfold P at H
  go_enter Try.func52, Try.ntmps52
  replace H := bind_hid H
  obtain ⟨t_3, qt_3, H⟩ := H
  go_wp2_with fail
  go_at_call 78
  refine (Go.Proofs.Ytlljmgphgmklcaa.GiWithin.C (fault) (0) (5)  _    qt_3).mono ?_
  rintro e_t_3 wt_3 ⟨rfl, bt_3⟩
  have HBwt_3 := Lib.hid (Below.step HB.out bt_3)
  clear bt_3
  cases t_3 with
  | false =>
    replace H := let_hid H
    obtain ⟨t_4, ht_4, H⟩ := H
    obtain rfl : t_4 = true := ht_4.symm
    replace H := ite_t H
    cases ret_hid H
    go_wp2_with fail
    go_ret2
    exact ⟨rfl, HBwt_3.out⟩
  | true =>
    replace H := let_hid H
    obtain ⟨t_4, ht_4, H⟩ := H
    obtain rfl : t_4 = false := ht_4.symm
    replace H := ite_f H
    replace H := idx_hid H
    obtain ⟨nt_9, yt_9, et_9, lt_9, gt_9, H⟩ := H
    subst et_9
    have it_9 : ∀ w, (Instr.index 125 (.agg #[.string (⟨#[116, 114, 117, 101]⟩ : ByteArray), .string (⟨#[122, 111, 110, 101]⟩ : ByteArray), .string (⟨#[115, 104, 111, 114, 116]⟩ : ByteArray), .string (⟨#[111, 118, 101, 114]⟩ : ByteArray), .string (⟨#[114, 111, 117, 116, 101]⟩ : ByteArray), .string (⟨#[101, 97, 114, 108, 121]⟩ : ByteArray)]) (.int .i64 (nt_9 : Int))).run Try.prog w = .ok (.string yt_9) w := by
      intro w
      have hl := lt_9
      have hg := gt_9.out
      clear gt_9 H
      rcases nt_9 with _ | _ | _ | _ | _ | _ | _
      · obtain rfl := Option.some.inj hg; rfl
      · obtain rfl := Option.some.inj hg; rfl
      · obtain rfl := Option.some.inj hg; rfl
      · obtain rfl := Option.some.inj hg; rfl
      · obtain rfl := Option.some.inj hg; rfl
      · obtain rfl := Option.some.inj hg; rfl
      · simp at hl; omega
    cases ret_hid H
    go_wp2_with fail
    go_ret2
    exact ⟨rfl, HBwt_3.out⟩
end Go.Proofs.Ytlljmgphgmklcaa.GiFaultText

/- loop.example/g01062/laws.FnExactFaultText as a plain function, and the contract of the program's: where the plain one has an answer, the program has it. Conditions: slices read as lists. -/
namespace Go.Proofs.Ytlljmgphgmklcaa.GlFnExactFaultText
set_option linter.unusedVariables false
set_option linter.unusedSimpArgs false
open Go.RowKit
open Go.Proofs.Ytlljmgphgmklcaa.Rowed Go.Proofs.Ytlljmgphgmklcaa.Turn Go.Proofs.Ytlljmgphgmklcaa.Aid Go.Proofs.Ytlljmgphgmklcaa.GoP Go.Proofs.Ytlljmgphgmklcaa.GoM

def P (aFault : Int) : Option (Bool) :=
  bind2 (Go.Proofs.Ytlljmgphgmklcaa.GsFaultText.P aFault) fun (t_2a : ByteArray) (t_2b : Bool) =>
  bind2 (Go.Proofs.Ytlljmgphgmklcaa.GiFaultText.P aFault) fun (t_9a : ByteArray) (t_9b : Bool) =>
  letK (!(t_9a.toList == t_2a.toList)) fun (t_17 : Bool) =>
  joinK (fun (t_22 : Bool) =>
  iteK t_22
  (some false)
  (some true)) fun jt_22 => iteK t_17 (appK jt_22 true) (letK (!(t_9b == t_2b)) fun (t_21 : Bool) =>
  appK jt_22 t_21)

set_option maxRecDepth 100000 in
set_option maxHeartbeats 2000000 in
theorem C (aFault : Int)   (w : World)   {r : Bool} (H : Hid (P aFault = some r)) :
    Calls Try.prog 12 #[.int .i64 aFault] w (Gives (.bool r) w) := by
  have HB := Lib.hid (Below.refl w.heap.size w)
  unfold P at H
  go_enter Try.func12, Try.ntmps12
  replace H := bind2_hid H
  obtain ⟨t_2a, t_2b, qt_2, H⟩ := H
  go_wp2_with fail
  go_at_call 51
  refine (Go.Proofs.Ytlljmgphgmklcaa.GsFaultText.C (aFault)  _    qt_2).mono ?_
  rintro e_t_2 wt_2 ⟨rfl, bt_2⟩
  have HBwt_2 := Lib.hid (Below.step HB.out bt_2)
  clear bt_2
  replace H := bind2_hid H
  obtain ⟨t_9a, t_9b, qt_9, H⟩ := H
  go_wp2_with fail
  go_at_call 52
  refine (Go.Proofs.Ytlljmgphgmklcaa.GiFaultText.C (aFault)  _    qt_9).mono ?_
  rintro e_t_9 wt_9 ⟨rfl, bt_9⟩
  have HBwt_9 := Lib.hid (Below.step HBwt_2.out bt_9)
  clear bt_9
  replace H := let_hid H
  obtain ⟨t_17, ht_17, H⟩ := H
  replace H := join_hid H
  cases t_17 with
  | false =>
    replace H := ite_f H
    replace H := let_hid H
    obtain ⟨t_21, ht_21, H⟩ := H
    replace H := app_hid H
    cases t_21 with
    | false =>
      replace H := ite_f H
      obtain rfl := ret_hid H
      go_wp2_with fail
      go_ret
      exact ⟨rfl, HBwt_9.out⟩
    | true =>
      replace H := ite_t H
      obtain rfl := ret_hid H
      go_wp2_with fail
      go_ret
      exact ⟨rfl, HBwt_9.out⟩
  | true =>
    replace H := ite_t H
    replace H := app_hid H
    replace H := ite_t H
    obtain rfl := ret_hid H
    go_wp2_with fail
    go_ret
    exact ⟨rfl, HBwt_9.out⟩
end Go.Proofs.Ytlljmgphgmklcaa.GlFnExactFaultText

/- Chapter 10: covers: the plain functions of the program and of the reference agree, and the laws answer true. (Q10Text) No condition but those of each theorem. -/
namespace Go.Proofs.Ytlljmgphgmklcaa.Q10Text
set_option linter.unusedVariables false
set_option linter.unusedSimpArgs false
open Go.RowKit
open Go.Proofs.Ytlljmgphgmklcaa.GoP Go.Proofs.Ytlljmgphgmklcaa.PlainStamp Go.Proofs.Ytlljmgphgmklcaa.QBase Go.Proofs.Ytlljmgphgmklcaa.QLoop

theorem text_same (n : Int) : ∃ a b, GiFaultText.P n = some (a, b) ∧ GsFaultText.P n = some (a, b) := by
  simp only [GiFaultText.P, GsFaultText.P, within_eq, l1In_eq, Option.bind_some, letK, iteK_if]
  cases hb : inB n 0 5 with
  | false => exact ⟨_, _, rfl, rfl⟩
  | true =>
    have h := inB_of hb
    obtain ⟨k, rfl⟩ : ∃ k : Nat, n = (k : Int) := ⟨n.toNat, by omega⟩
    simp only [Bool.not_true, Bool.false_eq_true, if_false, idx_nat]
    have hk : k < 6 := by omega
    rcases k with _ | _ | _ | _ | _ | _ | k
    · exact ⟨_, _, rfl, rfl⟩
    · exact ⟨_, _, rfl, rfl⟩
    · exact ⟨_, _, rfl, rfl⟩
    · exact ⟨_, _, rfl, rfl⟩
    · exact ⟨_, _, rfl, rfl⟩
    · exact ⟨_, _, rfl, rfl⟩
    · omega
end Go.Proofs.Ytlljmgphgmklcaa.Q10Text

/- Chapter 10: covers: the plain functions of the program and of the reference agree, and the laws answer true. (QL10Text) No condition but those of each theorem. -/
namespace Go.Proofs.Ytlljmgphgmklcaa.QL10Text
set_option linter.unusedVariables false
set_option linter.unusedSimpArgs false
open Go.RowKit
open Go.Proofs.Ytlljmgphgmklcaa.GoP Go.Proofs.Ytlljmgphgmklcaa.PlainStamp Go.Proofs.Ytlljmgphgmklcaa.QBase Go.Proofs.Ytlljmgphgmklcaa.Q10Text Go.Proofs.Ytlljmgphgmklcaa.QLoop

theorem law_text (n : Int) : GlFnExactFaultText.P n = some true := by
  obtain ⟨a, b, h1, h2⟩ := text_same n
  simp [GlFnExactFaultText.P, h1, h2, bind2, letK, joinK, appK, iteK_if]
end Go.Proofs.Ytlljmgphgmklcaa.QL10Text

