/- loop.example/g01062/laws.szPaperS as a plain function, and the contract of the program's: where the plain one has an answer, the program has it. Conditions: slices read as lists. -/
import Derived.Test.YtdgbigkcophjoaaChecked
import Derived.Test.YtdgbigkcophjoaaGoM
import Derived.Test.YtdgbigkcophjoaaGoRPaper
import Derived.Test.YtdgbigkcophjoaaOPaper
import Derived.Test.YtdgbigkcophjoaaGlSzPaper
import Derived.WalkKit
import Derived.WalkSpells
import Derived.WalkLawsBesides
import Derived.BigQuiet
import Derived.OwnWalk
import Derived.Deep.LoopGhost
import Derived.Deep.QuietTactic
import Derived.IntWalk
import Derived.Lib.QuietBelow
namespace Go.Proofs.Ytdgbigkcophjoaa.GlSzPaperS
set_option linter.unusedVariables false
set_option linter.unusedSimpArgs false
open Go.RowKit
open Go.Proofs.Ytdgbigkcophjoaa.Rowed Go.Proofs.Ytdgbigkcophjoaa.Turn Go.Proofs.Ytdgbigkcophjoaa.Aid Go.Proofs.Ytdgbigkcophjoaa.GoP Go.Proofs.Ytdgbigkcophjoaa.GoM

def l0 (a : (List Go.Proofs.Ytdgbigkcophjoaa.PPaper.Paper)) (k0 : Nat) (s : Int) (nx0 bk0 : Int → Option (Int)) : Option (Int) :=
  letK s fun left_1l0 =>
  Option.bind (idx a (k0 : Int)) fun (yt_16 : Go.Proofs.Ytdgbigkcophjoaa.PPaper.Paper) =>
  unPaper yt_16 fun (t_16_id : Int) (t_16_thick : Int) (t_16_tint : Int) (t_16_mark : ByteArray) (t_16_laid : Bool) =>
  Option.bind (Go.Proofs.Ytdgbigkcophjoaa.GlSzPaper.P (Go.Proofs.Ytdgbigkcophjoaa.PPaper.Paper.mk t_16_id t_16_thick t_16_tint t_16_mark t_16_laid) left_1l0) fun (t_19 : Int) =>
  letK (decide (t_19 < 0)) fun (t_22 : Bool) =>
  iteK t_22
  (some (-1))
  (appK nx0 (t_19))

def e0  (s : Int) : Option (Int) :=
  letK s fun left_1l0 =>
  some left_1l0

def P (a : (List Go.Proofs.Ytdgbigkcophjoaa.PPaper.Paper)) (left : Int) : Option (Int) :=
  letK (IntKind.i64.wrap (left - (a.length : Int))) fun (t_4 : Int) =>
  letK (decide (t_4 < 0)) fun (t_7 : Bool) =>
  iteK t_7
  (some (-1))
  (cntK (l0 a) (a.length) 0 (t_4) (e0 ))

set_option maxRecDepth 100000 in
set_option maxHeartbeats 2000000 in
theorem C (a : (List Go.Proofs.Ytdgbigkcophjoaa.PPaper.Paper)) (left : Int) (A0 : Option Addr) (c0 : Nat)  (w : World) (M0 : Hid (Cells w 5 A0 a.length (Go.Proofs.Ytdgbigkcophjoaa.PPaper.flat a))) (N0 : Hid (a.length ≤ 9223372036854775807))  {r : Int} (H : Hid (P a left = some r)) :
    Calls Try.prog 34 #[.slice A0 a.length c0, .int .i64 left] w (Gives (.int .i64 r) w) := by
  have HB := Lib.hid (Below.refl w.heap.size w)
  unfold P at H
  have N0o := N0.out
  go_enter Try.func34, Try.ntmps34
  replace H := let_hid H
  obtain ⟨t_4, ht_4, H⟩ := H
  replace H := let_hid H
  obtain ⟨t_7, ht_7, H⟩ := H
  cases t_7 with
  | false =>
    replace H := ite_f H
    go_wp2_with fail
    go_loopg [5, 1] (a.length) (fun m_ v5_ v1_ wr => ∃ (k0 : Nat) (left_1l0 : Int), k0 + m_ = a.length ∧ v5_ = .int .i64 (k0 : Int) ∧ v1_ = .int .i64 left_1l0 ∧ Hid (cntK (l0 a) m_ k0 (left_1l0) (e0 ) = some r) ∧ Hid (Below w.heap.size w wr))
    case atStart => exact ⟨0, _, by omega, rfl, rfl, H, HB⟩
    case round =>
      obtain ⟨k0, left_1l0, hkm0, rfl, rfl, H, HBwr0⟩ := hrel
      rename World => wr0
      cases gk with
      | zero =>
        obtain rfl : k0 = a.length := by omega
        have hc0 : decide (((a.length : Nat) : Int) < ((a.length : Nat) : Int)) = false := by simp
        replace H := cnt_zero H
        unfold e0 at H
        replace H := let_hid H
        obtain ⟨_, rfl, H⟩ := H
        obtain rfl := ret_hid H
        go_wp2_with fail
        go_ret
        exact ⟨rfl, HBwr0.out⟩
      | succ m0 =>
        have hlt0 : k0 < a.length := by omega
        have hc0 : decide ((k0 : Int) < ((a.length : Nat) : Int)) = true := by simp; omega
        replace H := cnt_succ H
        unfold l0 at H
        replace H := let_hid H
        obtain ⟨_, rfl, H⟩ := H
        replace H := idx_hid H
        obtain ⟨nt_16, yt_16, et_16, lt_16, gt_16, H⟩ := H
        obtain rfl : k0 = nt_16 := by omega
        clear et_16
        obtain ⟨t_16_id, t_16_thick, t_16_tint, t_16_mark, t_16_laid⟩ := yt_16
        replace H := unPaper_hid H
        obtain ⟨ab_t_16, ao_t_16, zt_16, At_16, z_t_16, ct_16_0, ct_16_1, ct_16_2, ct_16_3, ct_16_4⟩ := Go.Proofs.Ytdgbigkcophjoaa.OPaper.at_ M0.out lt_16
        obtain rfl := Option.some.inj (gt_16.out.symm.trans z_t_16)
        subst At_16
        have ltt_16 := cell_lt ct_16_0
        replace ct_16_0 := cell_below HBwr0.out ct_16_0
        replace ct_16_1 := cell_below HBwr0.out ct_16_1
        replace ct_16_2 := cell_below HBwr0.out ct_16_2
        replace ct_16_3 := cell_below HBwr0.out ct_16_3
        replace ct_16_4 := cell_below HBwr0.out ct_16_4
        clear z_t_16
        have b0t_16 : (0 : Int) ≤ (k0 : Int) := by omega
        have b1t_16 : (k0 : Int) < ((a.length : Nat) : Int) := by omega
        have b2t_16 : ((k0 : Int)).toNat = k0 := by omega
        replace H := bind_hid H
        obtain ⟨t_19, qt_19, H⟩ := H
        go_wp2_with fail
        go_at_call 76
        refine (Go.Proofs.Ytdgbigkcophjoaa.GlSzPaper.C ((Go.Proofs.Ytdgbigkcophjoaa.PPaper.Paper.mk t_16_id t_16_thick t_16_tint t_16_mark t_16_laid)) (left_1l0)  _    qt_19).mono ?_
        rintro e_t_19 wt_19 ⟨rfl, bt_19⟩
        have HBwt_19 := Lib.hid (Below.step HBwr0.out bt_19)
        replace ct_16_0 := cell_below bt_19 ct_16_0
        replace ct_16_1 := cell_below bt_19 ct_16_1
        replace ct_16_2 := cell_below bt_19 ct_16_2
        replace ct_16_3 := cell_below bt_19 ct_16_3
        replace ct_16_4 := cell_below bt_19 ct_16_4
        clear bt_19
        replace H := let_hid H
        obtain ⟨t_22, ht_22, H⟩ := H
        cases t_22 with
        | false =>
          replace H := ite_f H
          replace H := app_hid H
          go_wp2_with fail
          go_roundg m0
          case measure => omega
          case rel => exact ⟨k0 + 1, _, by omega, by go_num, rfl, H, HBwt_19⟩
        | true =>
          replace H := ite_t H
          obtain rfl := ret_hid H
          go_wp2_with fail
          go_ret
          exact ⟨rfl, HBwt_19.out⟩
  | true =>
    replace H := ite_t H
    obtain rfl := ret_hid H
    go_wp2_with fail
    go_ret
    exact ⟨rfl, HB.out⟩
end Go.Proofs.Ytdgbigkcophjoaa.GlSzPaperS
