/- slices.IndexFunc[[]loop.example/g01062/impl.Stamp,loop.example/g01062/impl.Stamp] as a plain function, and the contract of the program's: where the plain one has an answer, the program has it. Conditions: slices read as lists. -/
import Derived.Test.YtdgbigkcophjoaaChecked
import Derived.Test.YtdgbigkcophjoaaGoM
import Derived.Test.YtdgbigkcophjoaaGoRStamp
import Derived.Test.YtdgbigkcophjoaaHelpInt
import Derived.Test.YtdgbigkcophjoaaHelpStamp
import Derived.Test.YtdgbigkcophjoaaGiFirstFranking1
import Derived.WalkKit
import Derived.WalkSpells
import Derived.WalkLawsBesides
import Derived.BigQuiet
import Derived.OwnWalk
import Derived.Deep.LoopGhost
import Derived.Deep.QuietTactic
import Derived.IntWalk
import Derived.Lib.QuietBelow
namespace Go.Proofs.Ytdgbigkcophjoaa.GxSlicesIndexFuncLoopExampleG01062ImplStampLoopExampleG01062ImplStampiFirstFranking1
set_option linter.unusedVariables false
set_option linter.unusedSimpArgs false
open Go.RowKit
open Go.Proofs.Ytdgbigkcophjoaa.Rowed Go.Proofs.Ytdgbigkcophjoaa.Turn Go.Proofs.Ytdgbigkcophjoaa.Aid Go.Proofs.Ytdgbigkcophjoaa.GoP Go.Proofs.Ytdgbigkcophjoaa.GoM

def l0 (s_0 : (List Go.Proofs.Ytdgbigkcophjoaa.PlainStamp.St)) (hf1_0 : Int) (hf1_1 : Int) (hf1_2 : (List Int)) (k0 : Nat) (s : Unit) (nx0 bk0 : Unit → Option (Int)) : Option (Int) :=
  
  Option.bind (idx s_0 (k0 : Int)) fun (yt_10 : Go.Proofs.Ytdgbigkcophjoaa.PlainStamp.St) =>
  unStamp yt_10 fun (t_10_id : Int) (t_10_face : Int) (t_10_color : Int) (t_10_year : Int) =>
  Option.bind (Go.Proofs.Ytdgbigkcophjoaa.GiFirstFranking1.P (Go.Proofs.Ytdgbigkcophjoaa.PlainStamp.St.mk t_10_id t_10_face t_10_color t_10_year) hf1_0 hf1_1 hf1_2) fun (t_12 : Bool) =>
  iteK t_12
  (some (k0 : Int))
  (appK nx0 ())

def e0  (s : Unit) : Option (Int) :=
  
  some (-1)

def P (s_0 : (List Go.Proofs.Ytdgbigkcophjoaa.PlainStamp.St)) (hf1_0 : Int) (hf1_1 : Int) (hf1_2 : (List Int)) : Option (Int) :=
  cntK (l0 s_0 hf1_0 hf1_1 hf1_2) (s_0.length) 0 () (e0 )

set_option maxRecDepth 100000 in
set_option maxHeartbeats 2000000 in
theorem C (s_0 : (List Go.Proofs.Ytdgbigkcophjoaa.PlainStamp.St)) (hf1_0 : Int) (hf1_1 : Int) (hf1_2 : (List Int)) (A0 : Option Addr) (c0 : Nat) (Ahf1_2 : Option Addr) (chf1_2 : Nat) (gf1_0 : Nat) (gf1_1 : Nat) (gf1_2 : Nat) (w : World) (M0 : Hid (Cells w 4 A0 s_0.length (Go.Proofs.Ytdgbigkcophjoaa.PlainStamp.flat s_0))) (N0 : Hid (s_0.length ≤ 9223372036854775807)) (Mhf1_2 : Hid (Cells w 1 Ahf1_2 hf1_2.length (Go.Proofs.Ytdgbigkcophjoaa.HelpInt.iv hf1_2))) (Nhf1_2 : Hid (hf1_2.length ≤ 9223372036854775807)) (Ff1_0h : Hid (w.cell? ⟨gf1_0, 0, none⟩ = some (.int .i64 hf1_0))) (Ff1_1h : Hid (w.cell? ⟨gf1_1, 0, none⟩ = some (.int .i64 hf1_1))) (Ff1_2h : Hid (w.cell? ⟨gf1_2, 0, none⟩ = some (.slice Ahf1_2 hf1_2.length chf1_2))) {r : Int} (H : Hid (P s_0 hf1_0 hf1_1 hf1_2 = some r)) :
    Calls Try.prog 107 #[.slice A0 s_0.length c0, .func (.func 108) #[] #[.pointer (some ⟨gf1_0, 0, none⟩), .pointer (some ⟨gf1_1, 0, none⟩), .pointer (some ⟨gf1_2, 0, none⟩)]] w (Gives (.int .i64 r) w) := by
  have HB := Lib.hid (Below.refl w.heap.size w)
  unfold P at H
  have N0o := N0.out
  have Nhf1_2o := Nhf1_2.out
  have Ff1_0 := Ff1_0h.out
  have Ff1_1 := Ff1_1h.out
  have Ff1_2 := Ff1_2h.out
  go_enter Try.func107, Try.ntmps107
  go_wp2_with fail
  go_loopg [8] (s_0.length) (fun m_ v8_ wr => ∃ (k0 : Nat) , k0 + m_ = s_0.length ∧ v8_ = .int .i64 (k0 : Int) ∧ Hid (cntK (l0 s_0 hf1_0 hf1_1 hf1_2) m_ k0 () (e0 ) = some r) ∧ Hid (Below w.heap.size w wr) ∧ wr.cell? ⟨gf1_0, 0, none⟩ = some (.int .i64 hf1_0) ∧ wr.cell? ⟨gf1_1, 0, none⟩ = some (.int .i64 hf1_1) ∧ wr.cell? ⟨gf1_2, 0, none⟩ = some (.slice Ahf1_2 hf1_2.length chf1_2))
  case atStart => exact ⟨0, by omega, rfl, H, HB, Ff1_0, Ff1_1, Ff1_2⟩
  case round =>
    obtain ⟨k0, hkm0, rfl, H, HBwr0, Ff1_0, Ff1_1, Ff1_2⟩ := hrel
    rename World => wr0
    cases gk with
    | zero =>
      obtain rfl : k0 = s_0.length := by omega
      have hc0 : decide (((s_0.length : Nat) : Int) < ((s_0.length : Nat) : Int)) = false := by simp
      replace H := cnt_zero H
      unfold e0 at H
      obtain rfl := ret_hid H
      go_wp2_with fail
      go_ret
      exact ⟨rfl, HBwr0.out⟩
    | succ m0 =>
      have hlt0 : k0 < s_0.length := by omega
      have hc0 : decide ((k0 : Int) < ((s_0.length : Nat) : Int)) = true := by simp; omega
      replace H := cnt_succ H
      unfold l0 at H
      replace H := idx_hid H
      obtain ⟨nt_10, yt_10, et_10, lt_10, gt_10, H⟩ := H
      obtain rfl : k0 = nt_10 := by omega
      clear et_10
      obtain ⟨t_10_id, t_10_face, t_10_color, t_10_year⟩ := yt_10
      replace H := unStamp_hid H
      obtain ⟨ab_t_10, ao_t_10, zt_10, At_10, z_t_10, ct_10_0, ct_10_1, ct_10_2, ct_10_3⟩ := Go.Proofs.Ytdgbigkcophjoaa.HelpStamp.Sts.at_ M0.out lt_10
      obtain rfl := Option.some.inj (gt_10.out.symm.trans z_t_10)
      subst At_10
      have ltt_10 := cell_lt ct_10_0
      replace ct_10_0 := cell_below HBwr0.out ct_10_0
      replace ct_10_1 := cell_below HBwr0.out ct_10_1
      replace ct_10_2 := cell_below HBwr0.out ct_10_2
      replace ct_10_3 := cell_below HBwr0.out ct_10_3
      clear z_t_10
      have b0t_10 : (0 : Int) ≤ (k0 : Int) := by omega
      have b1t_10 : (k0 : Int) < ((s_0.length : Nat) : Int) := by omega
      have b2t_10 : ((k0 : Int)).toNat = k0 := by omega
      replace H := bind_hid H
      obtain ⟨t_12, qt_12, H⟩ := H
      go_wp2_with fail
      go_at_call 108
      refine (Go.Proofs.Ytdgbigkcophjoaa.GiFirstFranking1.C ((Go.Proofs.Ytdgbigkcophjoaa.PlainStamp.St.mk t_10_id t_10_face t_10_color t_10_year)) (hf1_0) (hf1_1) (hf1_2) Ahf1_2 chf1_2 (gf1_0) (gf1_1) (gf1_2) _   (Lib.hid (Cells.below Mhf1_2.out HBwr0.out)) Nhf1_2 (Lib.hid Ff1_0) (Lib.hid Ff1_1) (Lib.hid Ff1_2) qt_12).mono ?_
      rintro e_t_12 wt_12 ⟨rfl, bt_12⟩
      have HBwt_12 := Lib.hid (Below.step HBwr0.out bt_12)
      replace Ff1_0 := cell_below bt_12 Ff1_0
      replace Ff1_1 := cell_below bt_12 Ff1_1
      replace Ff1_2 := cell_below bt_12 Ff1_2
      replace ct_10_0 := cell_below bt_12 ct_10_0
      replace ct_10_1 := cell_below bt_12 ct_10_1
      replace ct_10_2 := cell_below bt_12 ct_10_2
      replace ct_10_3 := cell_below bt_12 ct_10_3
      clear bt_12
      cases t_12 with
      | false =>
        replace H := ite_f H
        replace H := app_hid H
        go_wp2_with fail
        go_roundg m0
        case measure => omega
        case rel => exact ⟨k0 + 1, by omega, by go_num, H, HBwt_12, Ff1_0, Ff1_1, Ff1_2⟩
      | true =>
        replace H := ite_t H
        obtain rfl := ret_hid H
        go_wp2_with fail
        go_ret
        exact ⟨rfl, HBwt_12.out⟩
end Go.Proofs.Ytdgbigkcophjoaa.GxSlicesIndexFuncLoopExampleG01062ImplStampLoopExampleG01062ImplStampiFirstFranking1
