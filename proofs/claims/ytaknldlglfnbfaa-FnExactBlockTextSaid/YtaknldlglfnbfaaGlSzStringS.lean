/- loop.example/g01062/laws.szStringS as a plain function, and the contract of the program's: where the plain one has an answer, the program has it. Conditions: slices read as lists. -/
import Derived.Test.YtaknldlglfnbfaaChecked
import Derived.Test.YtaknldlglfnbfaaGoM
import Derived.WalkKit
import Derived.WalkSpells
import Derived.WalkLawsBesides
import Derived.BigQuiet
import Derived.OwnWalk
import Derived.Deep.LoopGhost
import Derived.Deep.QuietTactic
import Derived.IntWalk
import Derived.Lib.QuietBelow
namespace Go.Proofs.Ytaknldlglfnbfaa.GlSzStringS
set_option linter.unusedVariables false
set_option linter.unusedSimpArgs false
open Go.RowKit
open Go.Proofs.Ytaknldlglfnbfaa.Rowed Go.Proofs.Ytaknldlglfnbfaa.Turn Go.Proofs.Ytaknldlglfnbfaa.Aid Go.Proofs.Ytaknldlglfnbfaa.GoP Go.Proofs.Ytaknldlglfnbfaa.GoM

def l0 (a : (List ByteArray)) (k0 : Nat) (s : Int) (nx0 bk0 : Int → Option (Int)) : Option (Int) :=
  letK s fun left_1l0 =>
  Option.bind (idx a (k0 : Int)) fun (yt_17 : ByteArray) =>
  letK (IntKind.i64.wrap (left_1l0 - (yt_17.size : Int))) fun (t_20 : Int) =>
  letK (decide (t_20 < 0)) fun (t_23 : Bool) =>
  iteK t_23
  (some (-1))
  (appK nx0 (t_20))

def e0  (s : Int) : Option (Int) :=
  letK s fun left_1l0 =>
  some left_1l0

def P (a : (List ByteArray)) (left : Int) : Option (Int) :=
  letK (IntKind.i64.wrap (left - (a.length : Int))) fun (t_4 : Int) =>
  letK (decide (t_4 < 0)) fun (t_7 : Bool) =>
  iteK t_7
  (some (-1))
  (cntK (l0 a) (a.length) 0 (t_4) (e0 ))

set_option maxRecDepth 100000 in
set_option maxHeartbeats 2000000 in
theorem C (a : (List ByteArray)) (left : Int) (A0 : Option Addr) (c0 : Nat)  (w : World) (M0 : Hid (Cells w 1 A0 a.length (a.map Value.string))) (N0 : Hid (a.length ≤ 9223372036854775807))  {r : Int} (H : Hid (P a left = some r)) :
    Calls Try.prog 36 #[.slice A0 a.length c0, .int .i64 left] w (Gives (.int .i64 r) w) := by
  have HB := Lib.hid (Below.refl w.heap.size w)
  unfold P at H
  have N0o := N0.out
  go_enter Try.func36, Try.ntmps36
  replace H := let_hid H
  obtain ⟨t_4, ht_4, H⟩ := H
  replace H := let_hid H
  obtain ⟨t_7, ht_7, H⟩ := H
  cases t_7 with
  | false =>
    replace H := ite_f H
    go_wp2_with fail
    go_loopg [5, 1] (a.length) (fun m_ v5_ v1_ wr => ∃ (k0 : Nat) (left_1l0 : Int), k0 + m_ = a.length ∧ v5_ = .int .i64 (k0 : Int) ∧ v1_ = .int .i64 left_1l0 ∧ Hid (cntK (l0 a) m_ k0 (left_1l0) (e0 ) = some r) ∧ Hid (Below w.heap.size w wr))
    case atStart => exact ⟨0, _, by omega, rfl, rfl, H, HB⟩
    case round =>
      obtain ⟨k0, left_1l0, hkm0, rfl, rfl, H, HBwr0⟩ := hrel
      rename World => wr0
      cases gk with
      | zero =>
        obtain rfl : k0 = a.length := by omega
        have hc0 : decide (((a.length : Nat) : Int) < ((a.length : Nat) : Int)) = false := by simp
        replace H := cnt_zero H
        unfold e0 at H
        replace H := let_hid H
        obtain ⟨_, rfl, H⟩ := H
        obtain rfl := ret_hid H
        go_wp2_with fail
        go_ret
        exact ⟨rfl, HBwr0.out⟩
      | succ m0 =>
        have hlt0 : k0 < a.length := by omega
        have hc0 : decide ((k0 : Int) < ((a.length : Nat) : Int)) = true := by simp; omega
        replace H := cnt_succ H
        unfold l0 at H
        replace H := let_hid H
        obtain ⟨_, rfl, H⟩ := H
        replace H := idx_hid H
        obtain ⟨nt_17, yt_17, et_17, lt_17, gt_17, H⟩ := H
        obtain rfl : k0 = nt_17 := by omega
        clear et_17
        obtain ⟨ab_t_17, ao_t_17, zt_17, At_17, z_t_17, ct_17_0⟩ := strs_at M0.out lt_17
        obtain rfl := Option.some.inj (gt_17.out.symm.trans z_t_17)
        subst At_17
        have ltt_17 := cell_lt ct_17_0
        replace ct_17_0 := cell_below HBwr0.out ct_17_0
        clear z_t_17
        have b0t_17 : (0 : Int) ≤ (k0 : Int) := by omega
        have b1t_17 : (k0 : Int) < ((a.length : Nat) : Int) := by omega
        have b2t_17 : ((k0 : Int)).toNat = k0 := by omega
        replace H := let_hid H
        obtain ⟨t_20, ht_20, H⟩ := H
        replace H := let_hid H
        obtain ⟨t_23, ht_23, H⟩ := H
        cases t_23 with
        | false =>
          replace H := ite_f H
          replace H := app_hid H
          go_wp2_with fail
          go_roundg m0
          case measure => omega
          case rel => exact ⟨k0 + 1, _, by omega, by go_num, rfl, H, HBwr0⟩
        | true =>
          replace H := ite_t H
          obtain rfl := ret_hid H
          go_wp2_with fail
          go_ret
          exact ⟨rfl, HBwr0.out⟩
  | true =>
    replace H := ite_t H
    obtain rfl := ret_hid H
    go_wp2_with fail
    go_ret
    exact ⟨rfl, HB.out⟩
end Go.Proofs.Ytaknldlglfnbfaa.GlSzStringS
