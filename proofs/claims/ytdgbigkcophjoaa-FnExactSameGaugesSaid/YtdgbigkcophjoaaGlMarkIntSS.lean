/- loop.example/g01062/laws.markIntSS as a plain function, and the contract of the program's: where the plain one has an answer, the program has it. Conditions: slices read as lists. -/
import Derived.Test.YtdgbigkcophjoaaChecked
import Derived.Test.YtdgbigkcophjoaaGoM
import Derived.Test.YtdgbigkcophjoaaGoN
import Derived.Test.YtdgbigkcophjoaaHelpInt
import Derived.Test.YtdgbigkcophjoaaGlMarkIntS
import Derived.WalkKit
import Derived.WalkSpells
import Derived.WalkLawsBesides
import Derived.BigQuiet
import Derived.OwnWalk
import Derived.Deep.LoopGhost
import Derived.Deep.QuietTactic
import Derived.IntWalk
import Derived.Lib.QuietBelow
namespace Go.Proofs.Ytdgbigkcophjoaa.GlMarkIntSS
set_option linter.unusedVariables false
set_option linter.unusedSimpArgs false
open Go.RowKit
open Go.Proofs.Ytdgbigkcophjoaa.Rowed Go.Proofs.Ytdgbigkcophjoaa.Turn Go.Proofs.Ytdgbigkcophjoaa.Aid Go.Proofs.Ytdgbigkcophjoaa.GoP Go.Proofs.Ytdgbigkcophjoaa.GoM

def l0  (k0 : Nat) (s : (List (List Int)) × Int) (nx0 bk0 : (List (List Int)) × Int → Option (Int × (List (List Int)))) : Option (Int × (List (List Int))) :=
  unp2 s fun a_0l0 k_1l0 =>
  Option.bind (idx a_0l0 (k0 : Int)) fun (yt_8 : (List Int)) =>
  bind2 (Go.Proofs.Ytdgbigkcophjoaa.GlMarkIntS.P yt_8 k_1l0) fun (t_11 : Int) (lt_11 : (List Int)) =>
  letK (a_0l0.set k0 lt_11) fun (nnt_11 : (List (List Int))) =>
  appK nx0 (nnt_11, t_11)

def e0  (s : (List (List Int)) × Int) : Option (Int × (List (List Int))) :=
  unp2 s fun a_0l0 k_1l0 =>
  some (k_1l0, a_0l0)

def P (a : (List (List Int))) (k_1 : Int) : Option (Int × (List (List Int))) :=
  cntK (l0 ) (a.length) 0 (a, k_1) (e0 )

set_option maxRecDepth 100000 in
set_option maxHeartbeats 2000000 in
theorem C (a : (List (List Int))) (k_1 : Int) (A0 : Option Addr) (c0 : Nat)  (b0 : Nat) (B0 : List (Option Addr)) (w : World) (M0 : Hid (Go.Proofs.Ytdgbigkcophjoaa.GoN.OwnNest w (b0) 29 3 1 Go.Proofs.Ytdgbigkcophjoaa.HelpInt.iv A0 c0 a B0)) (N0 : Hid (a.length ≤ 9223372036854775807))  {r : Int} {l_ : (List (List Int))} (H : Hid (P a k_1 = some (r, l_))) :
    Calls Try.prog 59 #[.slice A0 a.length c0, .int .i64 k_1] w (fun e w' => e = .returned (.int .i64 r) ∧ Go.Proofs.Ytdgbigkcophjoaa.GoN.OwnNest w' (b0) 29 3 1 Go.Proofs.Ytdgbigkcophjoaa.HelpInt.iv A0 c0 l_ B0 ∧ l_.length = a.length ∧ Go.Proofs.Ytdgbigkcophjoaa.GoN.GrownN w w' B0) := by
  have HB := Lib.hid (Go.Proofs.Ytdgbigkcophjoaa.GoN.grownN_refl w B0)
  unfold P at H
  have N0o := N0.out
  go_enter Try.func59, Try.ntmps59
  go_wp2_with fail
  have hb_0 : a.length ≤ 9223372036854775807 := Go.Proofs.Ytdgbigkcophjoaa.GoN.nest_max M0.out
  go_wp2_with fail
  go_loopg [5, 1] (a.length) (fun m_ v5_ v1_ wr => ∃ (k0 : Nat) (a_0l0 : (List (List Int))) (k_1l0 : Int), k0 + m_ = a.length ∧ v5_ = .int .i64 (k0 : Int) ∧ v1_ = .int .i64 k_1l0 ∧ Hid (cntK (l0 ) m_ k0 (a_0l0, k_1l0) (e0 ) = some (r, l_)) ∧ Hid (Go.Proofs.Ytdgbigkcophjoaa.GoN.GrownN w wr B0) ∧ Hid (Go.Proofs.Ytdgbigkcophjoaa.GoN.OwnNest wr (b0) 29 3 1 Go.Proofs.Ytdgbigkcophjoaa.HelpInt.iv A0 c0 a_0l0 B0) ∧ Hid (a_0l0.length = a.length))
  case atStart => exact ⟨0, _, _, by omega, rfl, rfl, H, HB, M0, Lib.hid (rfl)⟩
  case round =>
    obtain ⟨k0, a_0l0, k_1l0, hkm0, rfl, rfl, H, HBwr0, Oa_0l0, hna_0l0⟩ := hrel
    rename World => wr0
    cases gk with
    | zero =>
      obtain rfl : k0 = a.length := by omega
      have hc0 : decide (((a.length : Nat) : Int) < ((a.length : Nat) : Int)) = false := by simp
      replace H := cnt_zero H
      unfold e0 at H
      replace H := unp2_hid H
      cases ret_hid H
      go_wp2_with fail
      go_ret
      exact ⟨rfl, Oa_0l0.out, hna_0l0.out, HBwr0.out⟩
    | succ m0 =>
      have hlt0 : k0 < a.length := by omega
      have hc0 : decide ((k0 : Int) < ((a.length : Nat) : Int)) = true := by simp; omega
      replace H := cnt_succ H
      unfold l0 at H
      replace H := unp2_hid H
      replace H := idx_hid H
      obtain ⟨nt_8, yt_8, et_8, lt_8, gt_8, H⟩ := H
      obtain rfl : k0 = nt_8 := by omega
      clear et_8
      obtain ⟨gt_8_, zt_8, Art_8, crt_8, eAt_8, zzt_8, hct_8, hot_8, hmt_8, hat_8⟩ := Go.Proofs.Ytdgbigkcophjoaa.GoN.nest_own Oa_0l0.out (k := k0) lt_8
      obtain rfl := Option.some.inj (gt_8.out.symm.trans zzt_8)
      clear zzt_8
      subst eAt_8
      have Ort_8 := Lib.hid hot_8
      have mrt_8 := Lib.hid hmt_8
      clear hot_8 hmt_8 hat_8
      have b0t_8 : (0 : Int) ≤ (k0 : Int) := by omega
      have b1t_8 : (k0 : Int) < ((a_0l0.length : Nat) : Int) := by omega
      have b2t_8 : ((k0 : Int)).toNat = k0 := by omega
      have hqt_8 := hna_0l0.out
      have b3t_8 : (k0 : Int) < ((a.length : Nat) : Int) := by omega
      clear hqt_8
      replace H := bind2_hid H
      obtain ⟨t_11, lt_11, qt_11, H⟩ := H
      go_wp2_with fail
      go_at_call 25
      refine (Go.Proofs.Ytdgbigkcophjoaa.GlMarkIntS.C (yt_8) (k_1l0) Art_8 crt_8 b0 _   Ort_8 (Lib.hid (own_max Ort_8.out))   qt_11).mono ?_
      rintro e_t_11 wt_11 ⟨rfl, ot_11, nt_11, gt_11⟩
      have Pt_11 := Lib.hid ot_11
      have Gt_11 := Lib.hid gt_11
      replace nt_11 := Lib.hid nt_11
      clear ot_11 gt_11
      have HBwt_11 := Lib.hid (Go.Proofs.Ytdgbigkcophjoaa.GoN.grownN_row HBwr0.out Gt_11.out mrt_8.out)
      replace H := let_hid H
      obtain ⟨nnt_11, hnnt_11, H⟩ := H
      have Nt_11 : Hid (Go.Proofs.Ytdgbigkcophjoaa.GoN.OwnNest wt_11 (b0) 29 3 1 Go.Proofs.Ytdgbigkcophjoaa.HelpInt.iv (some ⟨gt_8_, 0, none⟩) c0 nnt_11 B0) := Lib.hid (by rw [← hnnt_11]; exact Go.Proofs.Ytdgbigkcophjoaa.GoN.nest_store (k := k0) Oa_0l0.out gt_8.out hct_8 Pt_11.out nt_11.out rfl Gt_11.out)
      have mt_11 : Hid (nnt_11.length = a.length) := Lib.hid (by rw [← hnnt_11, List.length_set]; exact hna_0l0.out)
      have hhnnt_11 := Lib.hid hnnt_11
      clear hnnt_11
      clear hct_8
      clear Oa_0l0
      clear Ort_8 Gt_11
      replace H := app_hid H
      go_wp2_with fail
      go_roundg m0
      case measure => omega
      case rel => exact ⟨k0 + 1, _, _, by omega, by go_num, rfl, H, HBwt_11, Nt_11, Lib.hid (mt_11.out)⟩
end Go.Proofs.Ytdgbigkcophjoaa.GlMarkIntSS
