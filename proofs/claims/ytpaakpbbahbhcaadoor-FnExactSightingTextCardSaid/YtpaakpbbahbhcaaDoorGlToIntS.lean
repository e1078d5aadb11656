/- loop.example/g01062/laws.toIntS as a plain function, and the contract of the program's: where the plain one has an answer, the program has it. Conditions: slices read as lists. -/
import Derived.Test.YtpaakpbbahbhcaaDoorChecked
import Derived.Test.YtpaakpbbahbhcaaDoorGoM
import Derived.Test.YtpaakpbbahbhcaaDoorHelpInt
import Derived.WalkKit
import Derived.WalkSpells
import Derived.WalkLawsBesides
import Derived.BigQuiet
import Derived.OwnWalk
import Derived.Deep.LoopGhost
import Derived.Deep.QuietTactic
import Derived.IntWalk
import Derived.Lib.QuietBelow
namespace Go.Proofs.YtpaakpbbahbhcaaDoor.GlToIntS
set_option linter.unusedVariables false
set_option linter.unusedSimpArgs false
open Go.RowKit
open Go.Proofs.YtpaakpbbahbhcaaDoor.Rowed Go.Proofs.YtpaakpbbahbhcaaDoor.Turn Go.Proofs.YtpaakpbbahbhcaaDoor.Aid Go.Proofs.YtpaakpbbahbhcaaDoor.GoP Go.Proofs.YtpaakpbbahbhcaaDoor.GoM

def l0 (a : (List Int)) (k0 : Nat) (s : (List Int)) (nx0 bk0 : (List Int) → Option ((List Int))) : Option ((List Int)) :=
  letK s fun out_3l0 =>
  Option.bind (idx a (k0 : Int)) fun (yt_14 : Int) =>
  Option.bind (idx out_3l0 (k0 : Int)) fun (yt_16 : Int) =>
  letK (out_3l0.set k0 yt_14) fun (l17_17 : (List Int)) =>
  appK nx0 (l17_17)

def e0  (s : (List Int)) : Option ((List Int)) :=
  letK s fun out_3l0 =>
  some out_3l0

def P (a : (List Int)) : Option ((List Int)) :=
  guardK (0 ≤ (a.length : Int) ∧ (a.length : Int) ≤ 1099511627776) <|
  letK (List.replicate a.length 0) fun (t_3 : (List Int)) =>
  cntK (l0 a) (a.length) 0 (t_3) (e0 )

set_option maxRecDepth 100000 in
set_option maxHeartbeats 2000000 in
theorem C (a : (List Int)) (A0 : Option Addr) (c0 : Nat)  (w : World) (M0 : Hid (Cells w 1 A0 a.length (Go.Proofs.YtpaakpbbahbhcaaDoor.HelpInt.iv a))) (N0 : Hid (a.length ≤ 9223372036854775807))  {r : (List Int)} (H : Hid (P a = some r)) :
    Calls Tryd.prog 12 #[.slice A0 a.length c0] w (fun e w' => ∃ A_r c_r, e = .returned (.slice A_r r.length c_r) ∧ w'.ownsRow w.heap.size 3 1 (.slice A_r r.length c_r) r.length (Go.Proofs.YtpaakpbbahbhcaaDoor.HelpInt.iv r) ∧ Below w.heap.size w w') := by
  have HB := Lib.hid (Below.refl w.heap.size w)
  unfold P at H
  have N0o := N0.out
  obtain ⟨i0_3, hi_3, hz0_3, hz1_3, hz2_3⟩ := Aid.info_parts (P := Tryd.prog) (T := 3) (z := .int .i64 0) (s := 1) (b := 8) (by kernel_rfl)
  go_enter Tryd.func12, Tryd.ntmps12
  replace H := guard_hid H
  obtain ⟨hnt_3, H⟩ := H
  replace H := let_hid H
  obtain ⟨t_3, ht_3, H⟩ := H
  have hst_3 := HB.out.size
  have hlt_3 : t_3.length = a.length := by rw [← ht_3]; simp
  have hht_3 := Lib.hid ht_3
  clear ht_3
  go_wp2_with (at_make; refine wpList_make_full _ rfl _ _ 22 rfl w.heap.size 3 i0_3 (.int .i64 0) 1 Tryd.underlying22 hi_3 hz0_3 hz1_3 .i64 .i64 _ _ a.length rfl rfl (by omega) (by omega) (by rw [hz2_3]; omega) (by unfold maxLen; omega) hst_3 ?_; intro wt_3 ot_3 gt_3; have Qt_3 := Lib.hid ot_3; have Gt_3 := Lib.hid gt_3; clear ot_3 gt_3; refine stop_in ?_)
  refine stop_out ?_
  have hv_ : (Value.slice (some ⟨w.heap.size, 0, none⟩) a.length a.length : Value) = Value.slice (some ⟨w.heap.size, 0, none⟩) t_3.length a.length := by rw [hlt_3]
  rw [hv_]
  clear hv_
  have Et_3 : (Go.Proofs.YtpaakpbbahbhcaaDoor.HelpInt.iv t_3) = (madeCells (.int .i64 0 : Value).cells (a.length * 1)).toList := by
    rw [made_flat (fun x => [.int .i64 x]) 0 _ 1 _ rfl rfl (by decide), ← hht_3.out]
    exact map_flat _ _
  have Pt_3 : Hid (wt_3.ownsRow w.heap.size 3 1 (.slice (some ⟨w.heap.size, 0, none⟩) a.length a.length) a.length (Go.Proofs.YtpaakpbbahbhcaaDoor.HelpInt.iv t_3)) := Lib.hid (by rw [Et_3]; exact Qt_3.out)
  clear Et_3
  replace hlt_3 := Lib.hid hlt_3
  clear Qt_3 hst_3
  have bt_3 : Below w.heap.size w wt_3 := (Below.refl _ _).grown Gt_3.out (Nat.le_refl _) (by simp)
  clear Gt_3
  have HBwt_3 := Lib.hid (Below.step HB.out bt_3)
  clear bt_3
  replace Pt_3 := Lib.hid (own_len hlt_3.out Pt_3.out)
  go_wp2_with fail
  go_wp2_with fail
  go_loopg [4] (a.length) (fun m_ v4_ wr => ∃ (k0 : Nat) (out_3l0 : (List Int)), k0 + m_ = a.length ∧ v4_ = .int .i64 (k0 : Int) ∧ Hid (cntK (l0 a) m_ k0 (out_3l0) (e0 ) = some r) ∧ Hid (Below w.heap.size w wr) ∧ Hid (wr.ownsRow w.heap.size 3 1 (.slice (some ⟨w.heap.size, 0, none⟩) t_3.length a.length) t_3.length (Go.Proofs.YtpaakpbbahbhcaaDoor.HelpInt.iv out_3l0)) ∧ Hid (out_3l0.length = t_3.length))
  case atStart => exact ⟨0, _, by omega, rfl, H, HBwt_3, Pt_3, Lib.hid (rfl)⟩
  case round =>
    obtain ⟨k0, out_3l0, hkm0, rfl, H, HBwr0, Oout_3l0, hnout_3l0⟩ := hrel
    rename World => wr0
    cases gk with
    | zero =>
      obtain rfl : k0 = a.length := by omega
      have hc0 : decide (((a.length : Nat) : Int) < ((a.length : Nat) : Int)) = false := by simp
      replace H := cnt_zero H
      unfold e0 at H
      replace H := let_hid H
      obtain ⟨_, rfl, H⟩ := H
      obtain rfl := ret_hid H
      go_wp2_with fail
      go_ret
      have hr_0 := hnout_3l0.out
      replace Oout_3l0 := Lib.hid (own_len hr_0 Oout_3l0.out)
      exact ⟨(some ⟨w.heap.size, 0, none⟩), a.length, (by first | (rw [hr_0]; done) | (rw [hr_0]; rfl)), Oout_3l0.out, HBwr0.out⟩
    | succ m0 =>
      have hlt0 : k0 < a.length := by omega
      have hc0 : decide ((k0 : Int) < ((a.length : Nat) : Int)) = true := by simp; omega
      replace H := cnt_succ H
      unfold l0 at H
      replace H := let_hid H
      obtain ⟨_, rfl, H⟩ := H
      replace H := idx_hid H
      obtain ⟨nt_14, yt_14, et_14, lt_14, gt_14, H⟩ := H
      obtain rfl : k0 = nt_14 := by omega
      clear et_14
      obtain ⟨ab_t_14, ao_t_14, zt_14, At_14, z_t_14, ct_14_0⟩ := Go.Proofs.YtpaakpbbahbhcaaDoor.HelpInt.Ints.at_ M0.out lt_14
      obtain rfl := Option.some.inj (gt_14.out.symm.trans z_t_14)
      subst At_14
      have ltt_14 := cell_lt ct_14_0
      replace ct_14_0 := cell_below HBwr0.out ct_14_0
      clear z_t_14
      have b0t_14 : (0 : Int) ≤ (k0 : Int) := by omega
      have b1t_14 : (k0 : Int) < ((a.length : Nat) : Int) := by omega
      have b2t_14 : ((k0 : Int)).toNat = k0 := by omega
      replace H := idx_hid H
      obtain ⟨nt_16, yt_16, et_16, lt_16, gt_16, H⟩ := H
      obtain rfl : k0 = nt_16 := by omega
      clear et_16
      have hqt_16 := hnout_3l0.out
      obtain ⟨ab_t_16, ao_t_16, zt_16, At_16, z_t_16, ct_16_0⟩ := Go.Proofs.YtpaakpbbahbhcaaDoor.HelpInt.Ints.at_ (own_cells Oout_3l0.out) (k := k0) (by omega)
      obtain rfl := Option.some.inj (gt_16.out.symm.trans z_t_16)
      simp only [Option.some.injEq, Addr.mk.injEq] at At_16
      obtain ⟨rfl, rfl, _⟩ := At_16
      clear z_t_16
      simp only [Nat.zero_add] at ct_16_0
      have b0t_16 : (0 : Int) ≤ (k0 : Int) := by omega
      have b1t_16 : (k0 : Int) < ((t_3.length : Nat) : Int) := by omega
      have b2t_16 : ((k0 : Int)).toNat = k0 := by omega
      clear hqt_16
      replace H := let_hid H
      obtain ⟨l17_17, hl17_17, H⟩ := H
      try simp only [Int.toNat_natCast] at hl17_17
      obtain ⟨wl17_17, hwl17_17⟩ : ∃ x, (wr0).setCell ⟨w.heap.size, k0, none⟩ (.int .i64 yt_14) = x := ⟨_, rfl⟩
      have z0l17_17 := Oout_3l0.out.frozenAt (k0)
      have Sl17_17 := Lib.hid (own_stores [(k0, .int .i64 yt_14)] Oout_3l0.out)
      have nl17_17 : Hid (l17_17.length = t_3.length) := Lib.hid (by rw [← hl17_17, List.length_set]; exact hnout_3l0.out)
      have Pl17_17 : Hid (wl17_17.ownsRow w.heap.size 3 1 (.slice (some ⟨w.heap.size, 0, none⟩) t_3.length a.length) t_3.length (Go.Proofs.YtpaakpbbahbhcaaDoor.HelpInt.iv l17_17)) := Lib.hid (by have e_ : ([(k0, .int .i64 yt_14)] : List (Nat × Value)).foldl (fun xs p => xs.set p.1 p.2) (Go.Proofs.YtpaakpbbahbhcaaDoor.HelpInt.iv out_3l0) = (Go.Proofs.YtpaakpbbahbhcaaDoor.HelpInt.iv l17_17) := (by rw [← hl17_17]; first | done | simp [Go.Proofs.YtpaakpbbahbhcaaDoor.HelpInt.iv, List.map_set]); rw [← hwl17_17, ← e_]; exact Sl17_17.out.1)
      have Gl17_17 : Hid (wr0.grownBy wl17_17 (Value.slice (some ⟨w.heap.size, 0, none⟩) t_3.length a.length).ownBlock) := Lib.hid (by rw [← hwl17_17]; exact Sl17_17.out.2)
      have HBwl17_17 := Lib.hid (HBwr0.out.grown Gl17_17.out HBwr0.out.size (fun q hq => (Oout_3l0.out.lt q hq).1))
      have hhl17_17 := Lib.hid hl17_17
      clear hl17_17 Sl17_17
      have ct_14_0__1 := cell_other ct_14_0 Gl17_17.out (apart_old Oout_3l0.out ltt_14)
      clear Oout_3l0 Gl17_17
      replace H := app_hid H
      go_wp2_with fail
      clear z0l17_17 ct_14_0 ct_16_0
      go_roundg m0
      case measure => omega
      case rel => exact ⟨k0 + 1, _, by omega, by go_num, H, HBwl17_17, Pl17_17, Lib.hid (nl17_17.out)⟩
end Go.Proofs.YtpaakpbbahbhcaaDoor.GlToIntS
