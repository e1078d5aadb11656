/- loop.example/g01062/laws.heldIntSS as a plain function, and the contract of the program's: where the plain one has an answer, the program has it. Conditions: slices read as lists. -/
import Derived.Test.YtdgbigkcophjoaaChecked
import Derived.Test.YtdgbigkcophjoaaGoM
import Derived.Test.YtdgbigkcophjoaaGoN
import Derived.Test.YtdgbigkcophjoaaHelpInt
import Derived.Test.YtdgbigkcophjoaaGlHeldIntS
import Derived.WalkKit
import Derived.WalkSpells
import Derived.WalkLawsBesides
import Derived.BigQuiet
import Derived.OwnWalk
import Derived.Deep.LoopGhost
import Derived.Deep.QuietTactic
import Derived.IntWalk
import Derived.Lib.QuietBelow
namespace Go.Proofs.Ytdgbigkcophjoaa.GlHeldIntSS
set_option linter.unusedVariables false
set_option linter.unusedSimpArgs false
open Go.RowKit
open Go.Proofs.Ytdgbigkcophjoaa.Rowed Go.Proofs.Ytdgbigkcophjoaa.Turn Go.Proofs.Ytdgbigkcophjoaa.Aid Go.Proofs.Ytdgbigkcophjoaa.GoP Go.Proofs.Ytdgbigkcophjoaa.GoM

def l0 (a : (List (List Int))) (k0 : Nat) (s : Int) (nx0 bk0 : Int → Option (Int)) : Option (Int) :=
  letK s fun k_1l0 =>
  Option.bind (idx a (k0 : Int)) fun (yt_8 : (List Int)) =>
  Option.bind (Go.Proofs.Ytdgbigkcophjoaa.GlHeldIntS.P yt_8 k_1l0) fun (t_11 : Int) =>
  letK (decide (t_11 < 0)) fun (t_14 : Bool) =>
  iteK t_14
  (some (-1))
  (appK nx0 (t_11))

def e0  (s : Int) : Option (Int) :=
  letK s fun k_1l0 =>
  some k_1l0

def P (a : (List (List Int))) (k_1 : Int) : Option (Int) :=
  cntK (l0 a) (a.length) 0 (k_1) (e0 )

set_option maxRecDepth 100000 in
set_option maxHeartbeats 2000000 in
theorem C (a : (List (List Int))) (k_1 : Int) (A0 : Option Addr) (c0 : Nat)  (w : World) (M0 : Hid (Go.Proofs.Ytdgbigkcophjoaa.GoN.ReadNest w 1 Go.Proofs.Ytdgbigkcophjoaa.HelpInt.iv A0 a)) (N0 : Hid (a.length ≤ 9223372036854775807))  {r : Int} (H : Hid (P a k_1 = some r)) :
    Calls Try.prog 60 #[.slice A0 a.length c0, .int .i64 k_1] w (Gives (.int .i64 r) w) := by
  have HB := Lib.hid (Below.refl w.heap.size w)
  unfold P at H
  have N0o := N0.out
  go_enter Try.func60, Try.ntmps60
  go_wp2_with fail
  go_loopg [5, 1] (a.length) (fun m_ v5_ v1_ wr => ∃ (k0 : Nat) (k_1l0 : Int), k0 + m_ = a.length ∧ v5_ = .int .i64 (k0 : Int) ∧ v1_ = .int .i64 k_1l0 ∧ Hid (cntK (l0 a) m_ k0 (k_1l0) (e0 ) = some r) ∧ Hid (Below w.heap.size w wr))
  case atStart => exact ⟨0, _, by omega, rfl, rfl, H, HB⟩
  case round =>
    obtain ⟨k0, k_1l0, hkm0, rfl, rfl, H, HBwr0⟩ := hrel
    rename World => wr0
    cases gk with
    | zero =>
      obtain rfl : k0 = a.length := by omega
      have hc0 : decide (((a.length : Nat) : Int) < ((a.length : Nat) : Int)) = false := by simp
      replace H := cnt_zero H
      unfold e0 at H
      replace H := let_hid H
      obtain ⟨_, rfl, H⟩ := H
      obtain rfl := ret_hid H
      go_wp2_with fail
      go_ret
      exact ⟨rfl, HBwr0.out⟩
    | succ m0 =>
      have hlt0 : k0 < a.length := by omega
      have hc0 : decide ((k0 : Int) < ((a.length : Nat) : Int)) = true := by simp; omega
      replace H := cnt_succ H
      unfold l0 at H
      replace H := let_hid H
      obtain ⟨_, rfl, H⟩ := H
      replace H := idx_hid H
      obtain ⟨nt_8, yt_8, et_8, lt_8, gt_8, H⟩ := H
      obtain rfl : k0 = nt_8 := by omega
      clear et_8
      obtain ⟨bbt_8, oot_8, zt_8, Art_8, crt_8, eAt_8, zzt_8, hct_8, hrt_8, hqt_8, hnt_8⟩ := Go.Proofs.Ytdgbigkcophjoaa.GoN.nest_at M0.out (k := k0) lt_8
      obtain rfl := Option.some.inj (gt_8.out.symm.trans zzt_8)
      clear zzt_8
      subst eAt_8
      have ltt_8 := cell_lt hct_8
      replace hct_8 := cell_below HBwr0.out hct_8
      have Mrt_8 := Lib.hid hrt_8
      have Qrt_8 := Lib.hid hqt_8
      have Nrt_8 := Lib.hid hnt_8
      clear hrt_8 hqt_8 hnt_8
      have b0t_8 : (0 : Int) ≤ (k0 : Int) := by omega
      have b1t_8 : (k0 : Int) < ((a.length : Nat) : Int) := by omega
      have b2t_8 : ((k0 : Int)).toNat = k0 := by omega
      replace H := bind_hid H
      obtain ⟨t_11, qt_11, H⟩ := H
      go_wp2_with fail
      go_at_call 26
      refine (Go.Proofs.Ytdgbigkcophjoaa.GlHeldIntS.C (yt_8) (k_1l0) Art_8 crt_8 _   (Lib.hid (Cells.below Mrt_8.out HBwr0.out)) Nrt_8 qt_11).mono ?_
      rintro e_t_11 wt_11 ⟨rfl, bt_11⟩
      have HBwt_11 := Lib.hid (Below.step HBwr0.out bt_11)
      replace hct_8 := cell_below bt_11 hct_8
      clear bt_11
      replace H := let_hid H
      obtain ⟨t_14, ht_14, H⟩ := H
      cases t_14 with
      | false =>
        replace H := ite_f H
        replace H := app_hid H
        go_wp2_with fail
        go_roundg m0
        case measure => omega
        case rel => exact ⟨k0 + 1, _, by omega, by go_num, rfl, H, HBwt_11⟩
      | true =>
        replace H := ite_t H
        obtain rfl := ret_hid H
        go_wp2_with fail
        go_ret
        exact ⟨rfl, HBwt_11.out⟩
end Go.Proofs.Ytdgbigkcophjoaa.GlHeldIntSS
