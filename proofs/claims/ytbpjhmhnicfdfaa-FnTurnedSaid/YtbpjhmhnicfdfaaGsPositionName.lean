/- loop.example/g01062/spec.PositionName as a plain function, and the contract of the program's: where the plain one has an answer, the program has it. Conditions: slices read as lists. -/
import Derived.Test.YtbpjhmhnicfdfaaChecked
import Derived.Test.YtbpjhmhnicfdfaaGoM
import Derived.Test.YtbpjhmhnicfdfaaGsL3Position
import Derived.WalkKit
import Derived.WalkSpells
import Derived.WalkLawsBesides
import Derived.BigQuiet
import Derived.OwnWalk
import Derived.Deep.LoopGhost
import Derived.Deep.QuietTactic
import Derived.IntWalk
import Derived.Lib.QuietBelow
namespace Go.Proofs.Ytbpjhmhnicfdfaa.GsPositionName
set_option linter.unusedVariables false
set_option linter.unusedSimpArgs false
open Go.RowKit
open Go.Proofs.Ytbpjhmhnicfdfaa.Rowed Go.Proofs.Ytbpjhmhnicfdfaa.Turn Go.Proofs.Ytbpjhmhnicfdfaa.Aid Go.Proofs.Ytbpjhmhnicfdfaa.GoP Go.Proofs.Ytbpjhmhnicfdfaa.GoM

def j0  (s : ByteArray) : Option (ByteArray × Bool) :=
  some (s, true)

def P (a : Int) : Option (ByteArray × Bool) :=
  Option.bind (Go.Proofs.Ytbpjhmhnicfdfaa.GsL3Position.P a) fun (t_3 : Bool) =>
  letK (!t_3) fun (t_4 : Bool) =>
  iteK t_4
  (some ((⟨#[]⟩ : ByteArray), false))
  (letK ([(⟨#[117, 112, 114, 105, 103, 104, 116]⟩ : ByteArray), (⟨#[114, 105, 103, 104, 116]⟩ : ByteArray), (⟨#[105, 110, 118, 101, 114, 116, 101, 100]⟩ : ByteArray), (⟨#[108, 101, 102, 116]⟩ : ByteArray)]) fun (t_7 : (List ByteArray)) =>
  letK (Int.tmod a 4) fun (t_9 : Int) =>
  Option.bind (idx t_7 t_9) fun (yt_10 : ByteArray) =>
  letK (decide (4 ≤ a)) fun (t_14 : Bool) =>
  iteK t_14
  (guardK ((⟨#[114, 101, 118, 101, 114, 115, 101, 100, 32]⟩ : ByteArray).size + yt_10.size ≤ maxLen) <|
  letK ((⟨#[114, 101, 118, 101, 114, 115, 101, 100, 32]⟩ : ByteArray) ++ yt_10) fun (t_16 : ByteArray) =>
  j0  (t_16))
  (j0  (yt_10)))

set_option maxRecDepth 100000 in
set_option maxHeartbeats 2000000 in
theorem C (a : Int)   (w : World)   {r0 : ByteArray} {r1 : Bool} (H : Hid (P a = some (r0, r1))) :
    Calls Try.prog 29 #[.int .i64 a] w (Gives (.tuple #[.string r0, .bool r1]) w) := by
  have HB := Lib.hid (Below.refl w.heap.size w)
  unfold P at H
  go_enter Try.func29, Try.ntmps29
  replace H := bind_hid H
  obtain ⟨t_3, qt_3, H⟩ := H
  go_wp2_with fail
  go_at_call 48
  refine (Go.Proofs.Ytbpjhmhnicfdfaa.GsL3Position.C (a)  _    qt_3).mono ?_
  rintro e_t_3 wt_3 ⟨rfl, bt_3⟩
  have HBwt_3 := Lib.hid (Below.step HB.out bt_3)
  clear bt_3
  cases t_3 with
  | false =>
    replace H := let_hid H
    obtain ⟨t_4, ht_4, H⟩ := H
    obtain rfl : t_4 = true := ht_4.symm
    replace H := ite_t H
    cases ret_hid H
    go_wp2_with fail
    go_ret2
    exact ⟨rfl, HBwt_3.out⟩
  | true =>
    replace H := let_hid H
    obtain ⟨t_4, ht_4, H⟩ := H
    obtain rfl : t_4 = false := ht_4.symm
    replace H := ite_f H
    replace H := let_hid H
    obtain ⟨t_7, ht_7, H⟩ := H
    obtain ⟨w_t_7, hw_t_7⟩ : ∃ x, wt_3.alloc (.cells #[.string (⟨#[117, 112, 114, 105, 103, 104, 116]⟩ : ByteArray), .string (⟨#[114, 105, 103, 104, 116]⟩ : ByteArray), .string (⟨#[105, 110, 118, 101, 114, 116, 101, 100]⟩ : ByteArray), .string (⟨#[108, 101, 102, 116]⟩ : ByteArray)] 9) = x := ⟨_, rfl⟩
    have bw_t_7 : Below wt_3.heap.size wt_3 w_t_7 := by rw [← hw_t_7]; exact (Below.refl _ _).alloc (Nat.le_refl _) _
    have hs_t_7 := HBwt_3.out.size
    have nt_7 : t_7.length = 4 := by rw [← ht_7]; rfl
    have Ot_7 : Hid (w_t_7.ownsRow w.heap.size 9 1 (.slice (some ⟨wt_3.heap.size, 0, none⟩) 4 4) 4 (t_7.map Value.string)) := by
      rw [← hw_t_7, ← ht_7]
      have e_ : ([.string (⟨#[117, 112, 114, 105, 103, 104, 116]⟩ : ByteArray), .string (⟨#[114, 105, 103, 104, 116]⟩ : ByteArray), .string (⟨#[105, 110, 118, 101, 114, 116, 101, 100]⟩ : ByteArray), .string (⟨#[108, 101, 102, 116]⟩ : ByteArray)] : List Value) = (([(⟨#[117, 112, 114, 105, 103, 104, 116]⟩ : ByteArray), (⟨#[114, 105, 103, 104, 116]⟩ : ByteArray), (⟨#[105, 110, 118, 101, 114, 116, 101, 100]⟩ : ByteArray), (⟨#[108, 101, 102, 116]⟩ : ByteArray)] : List ByteArray).map Value.string) := rfl
      exact Lib.hid (own_laid (n := 4) hs_t_7 e_ rfl (by unfold maxLen; omega))
    clear hs_t_7
    have hht_7 := Lib.hid ht_7
    clear ht_7
    replace nt_7 := Lib.hid nt_7
    have HBw_t_7 := Lib.hid (Below.step HBwt_3.out bw_t_7)
    clear bw_t_7
    replace H := let_hid H
    obtain ⟨t_9, ht_9, H⟩ := H
    replace H := idx_hid H
    obtain ⟨nt_10, yt_10, et_10, lt_10, gt_10, H⟩ := H
    subst et_10
    have hqt_10 := nt_7.out
    obtain ⟨ab_t_10, ao_t_10, zt_10, At_10, z_t_10, ct_10_0⟩ := strs_at (own_cells Ot_7.out) (k := nt_10) (by omega)
    obtain rfl := Option.some.inj (gt_10.out.symm.trans z_t_10)
    simp only [Option.some.injEq, Addr.mk.injEq] at At_10
    obtain ⟨rfl, rfl, _⟩ := At_10
    clear z_t_10
    simp only [Nat.zero_add] at ct_10_0
    have b0t_10 : (0 : Int) ≤ (nt_10 : Int) := by omega
    have b1t_10 : (nt_10 : Int) < ((4 : Nat) : Int) := by omega
    have b2t_10 : ((nt_10 : Int)).toNat = nt_10 := by omega
    clear hqt_10
    replace H := let_hid H
    obtain ⟨t_14, ht_14, H⟩ := H
    cases t_14 with
    | false =>
      replace H := ite_f H
      unfold j0 at H
      cases ret_hid H
      go_wp2_with fail
      go_ret2
      exact ⟨rfl, HBw_t_7.out⟩
    | true =>
      replace H := ite_t H
      replace H := guard_hid H
      obtain ⟨hl_t_16, H⟩ := H
      replace H := let_hid H
      obtain ⟨t_16, ht_16, H⟩ := H
      have ct_16 := cat_rule (P := Try.prog) ht_16 hl_t_16
      clear hl_t_16
      have hht_16 := Lib.hid ht_16
      clear ht_16
      unfold j0 at H
      cases ret_hid H
      go_wp2_with fail
      go_ret2
      exact ⟨rfl, HBw_t_7.out⟩
end Go.Proofs.Ytbpjhmhnicfdfaa.GsPositionName
