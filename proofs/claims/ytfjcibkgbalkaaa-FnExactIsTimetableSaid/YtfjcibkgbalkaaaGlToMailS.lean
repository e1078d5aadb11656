/- loop.example/g01062/laws.toMailS as a plain function, and the contract of the program's: where the plain one has an answer, the program has it. Conditions: slices read as lists. -/
import Derived.Test.YtfjcibkgbalkaaaChecked
import Derived.Test.YtfjcibkgbalkaaaGoM
import Derived.Test.YtfjcibkgbalkaaaGoRMail
import Derived.Test.YtfjcibkgbalkaaaOMail
import Derived.Test.YtfjcibkgbalkaaaGlToMail
import Derived.WalkKit
import Derived.WalkSpells
import Derived.WalkLawsBesides
import Derived.BigQuiet
import Derived.OwnWalk
import Derived.Deep.LoopGhost
import Derived.Deep.QuietTactic
import Derived.IntWalk
import Derived.Lib.QuietBelow
namespace Go.Proofs.Ytfjcibkgbalkaaa.GlToMailS
set_option linter.unusedVariables false
set_option linter.unusedSimpArgs false
open Go.RowKit
open Go.Proofs.Ytfjcibkgbalkaaa.Rowed Go.Proofs.Ytfjcibkgbalkaaa.Turn Go.Proofs.Ytfjcibkgbalkaaa.Aid Go.Proofs.Ytfjcibkgbalkaaa.GoP Go.Proofs.Ytfjcibkgbalkaaa.GoM

def l0 (a : (List Go.Proofs.Ytfjcibkgbalkaaa.PMail.Mail)) (k0 : Nat) (s : (List Go.Proofs.Ytfjcibkgbalkaaa.PMail.Mail)) (nx0 bk0 : (List Go.Proofs.Ytfjcibkgbalkaaa.PMail.Mail) → Option ((List Go.Proofs.Ytfjcibkgbalkaaa.PMail.Mail))) : Option ((List Go.Proofs.Ytfjcibkgbalkaaa.PMail.Mail)) :=
  letK s fun out_3l0 =>
  Option.bind (idx a (k0 : Int)) fun (yt_14 : Go.Proofs.Ytfjcibkgbalkaaa.PMail.Mail) =>
  unMail yt_14 fun (t_14_leave : Int) (t_14_from_ : Int) (t_14_to_ : Int) (t_14_arrive : Int) =>
  Option.bind (Go.Proofs.Ytfjcibkgbalkaaa.GlToMail.P (Go.Proofs.Ytfjcibkgbalkaaa.PMail.Mail.mk t_14_leave t_14_from_ t_14_to_ t_14_arrive)) fun (t_16 : Go.Proofs.Ytfjcibkgbalkaaa.PMail.Mail) =>
  unMail t_16 fun (t_16_leave : Int) (t_16_from_ : Int) (t_16_to_ : Int) (t_16_arrive : Int) =>
  Option.bind (idx out_3l0 (k0 : Int)) fun (yt_17 : Go.Proofs.Ytfjcibkgbalkaaa.PMail.Mail) =>
  unMail yt_17 fun (t_17_leave : Int) (t_17_from_ : Int) (t_17_to_ : Int) (t_17_arrive : Int) =>
  letK (out_3l0.set k0 (Go.Proofs.Ytfjcibkgbalkaaa.PMail.Mail.mk t_16_leave t_16_from_ t_16_to_ t_16_arrive)) fun (l18_18 : (List Go.Proofs.Ytfjcibkgbalkaaa.PMail.Mail)) =>
  appK nx0 (l18_18)

def e0  (s : (List Go.Proofs.Ytfjcibkgbalkaaa.PMail.Mail)) : Option ((List Go.Proofs.Ytfjcibkgbalkaaa.PMail.Mail)) :=
  letK s fun out_3l0 =>
  some out_3l0

def P (a : (List Go.Proofs.Ytfjcibkgbalkaaa.PMail.Mail)) : Option ((List Go.Proofs.Ytfjcibkgbalkaaa.PMail.Mail)) :=
  guardK (0 ≤ (a.length : Int) ∧ (a.length : Int) ≤ 1099511627776) <|
  letK (List.replicate a.length (Go.Proofs.Ytfjcibkgbalkaaa.PMail.Mail.mk 0 0 0 0)) fun (t_3 : (List Go.Proofs.Ytfjcibkgbalkaaa.PMail.Mail)) =>
  cntK (l0 a) (a.length) 0 (t_3) (e0 )

set_option maxRecDepth 100000 in
set_option maxHeartbeats 2000000 in
theorem C (a : (List Go.Proofs.Ytfjcibkgbalkaaa.PMail.Mail)) (A0 : Option Addr) (c0 : Nat)  (w : World) (M0 : Hid (Cells w 4 A0 a.length (Go.Proofs.Ytfjcibkgbalkaaa.PMail.flat a))) (N0 : Hid (a.length ≤ 9223372036854775807))  {r : (List Go.Proofs.Ytfjcibkgbalkaaa.PMail.Mail)} (H : Hid (P a = some r)) :
    Calls Try.prog 48 #[.slice A0 a.length c0] w (fun e w' => ∃ A_r c_r, e = .returned (.slice A_r r.length c_r) ∧ w'.ownsRow w.heap.size 95 4 (.slice A_r r.length c_r) r.length (Go.Proofs.Ytfjcibkgbalkaaa.PMail.flat r) ∧ Below w.heap.size w w') := by
  have HB := Lib.hid (Below.refl w.heap.size w)
  unfold P at H
  have N0o := N0.out
  obtain ⟨i0_95, hi_95, hz0_95, hz1_95, hz2_95⟩ := Aid.info_parts (P := Try.prog) (T := 95) (z := .agg #[.int .i64 0, .int .i64 0, .int .i64 0, .int .i64 0]) (s := 4) (b := 32) (by kernel_rfl)
  go_enter Try.func48, Try.ntmps48
  replace H := guard_hid H
  obtain ⟨hnt_3, H⟩ := H
  replace H := let_hid H
  obtain ⟨t_3, ht_3, H⟩ := H
  have hst_3 := HB.out.size
  have hlt_3 : t_3.length = a.length := by rw [← ht_3]; simp
  have hht_3 := Lib.hid ht_3
  clear ht_3
  go_wp2_with (at_make; refine wpList_make_full _ rfl _ _ 43 rfl w.heap.size 95 i0_95 (.agg #[.int .i64 0, .int .i64 0, .int .i64 0, .int .i64 0]) 4 Try.underlying43 hi_95 hz0_95 hz1_95 .i64 .i64 _ _ a.length rfl rfl (by omega) (by omega) (by rw [hz2_95]; omega) (by unfold maxLen; omega) hst_3 ?_; intro wt_3 ot_3 gt_3; have Qt_3 := Lib.hid ot_3; have Gt_3 := Lib.hid gt_3; clear ot_3 gt_3; refine stop_in ?_)
  refine stop_out ?_
  have hv_ : (Value.slice (some ⟨w.heap.size, 0, none⟩) a.length a.length : Value) = Value.slice (some ⟨w.heap.size, 0, none⟩) t_3.length a.length := by rw [hlt_3]
  rw [hv_]
  clear hv_
  have Et_3 : (Go.Proofs.Ytfjcibkgbalkaaa.PMail.flat t_3) = (madeCells (.agg #[.int .i64 0, .int .i64 0, .int .i64 0, .int .i64 0] : Value).cells (a.length * 4)).toList := by
    rw [made_flat Go.Proofs.Ytfjcibkgbalkaaa.PMail.Mail.cells (Go.Proofs.Ytfjcibkgbalkaaa.PMail.Mail.mk 0 0 0 0) _ 4 _ rfl rfl (by decide), ← hht_3.out]
    rfl
  have Pt_3 : Hid (wt_3.ownsRow w.heap.size 95 4 (.slice (some ⟨w.heap.size, 0, none⟩) a.length a.length) a.length (Go.Proofs.Ytfjcibkgbalkaaa.PMail.flat t_3)) := Lib.hid (by rw [Et_3]; exact Qt_3.out)
  clear Et_3
  replace hlt_3 := Lib.hid hlt_3
  clear Qt_3 hst_3
  have bt_3 : Below w.heap.size w wt_3 := (Below.refl _ _).grown Gt_3.out (Nat.le_refl _) (by simp)
  clear Gt_3
  have HBwt_3 := Lib.hid (Below.step HB.out bt_3)
  clear bt_3
  replace Pt_3 := Lib.hid (own_len hlt_3.out Pt_3.out)
  go_wp2_with fail
  go_wp2_with fail
  go_loopg [4] (a.length) (fun m_ v4_ wr => ∃ (k0 : Nat) (out_3l0 : (List Go.Proofs.Ytfjcibkgbalkaaa.PMail.Mail)), k0 + m_ = a.length ∧ v4_ = .int .i64 (k0 : Int) ∧ Hid (cntK (l0 a) m_ k0 (out_3l0) (e0 ) = some r) ∧ Hid (Below w.heap.size w wr) ∧ Hid (wr.ownsRow w.heap.size 95 4 (.slice (some ⟨w.heap.size, 0, none⟩) t_3.length a.length) t_3.length (Go.Proofs.Ytfjcibkgbalkaaa.PMail.flat out_3l0)) ∧ Hid (out_3l0.length = t_3.length))
  case atStart => exact ⟨0, _, by omega, rfl, H, HBwt_3, Pt_3, Lib.hid (rfl)⟩
  case round =>
    obtain ⟨k0, out_3l0, hkm0, rfl, H, HBwr0, Oout_3l0, hnout_3l0⟩ := hrel
    rename World => wr0
    cases gk with
    | zero =>
      obtain rfl : k0 = a.length := by omega
      have hc0 : decide (((a.length : Nat) : Int) < ((a.length : Nat) : Int)) = false := by simp
      replace H := cnt_zero H
      unfold e0 at H
      replace H := let_hid H
      obtain ⟨_, rfl, H⟩ := H
      obtain rfl := ret_hid H
      go_wp2_with fail
      go_ret
      have hr_0 := hnout_3l0.out
      replace Oout_3l0 := Lib.hid (own_len hr_0 Oout_3l0.out)
      exact ⟨(some ⟨w.heap.size, 0, none⟩), a.length, (by first | (rw [hr_0]; done) | (rw [hr_0]; rfl)), Oout_3l0.out, HBwr0.out⟩
    | succ m0 =>
      have hlt0 : k0 < a.length := by omega
      have hc0 : decide ((k0 : Int) < ((a.length : Nat) : Int)) = true := by simp; omega
      replace H := cnt_succ H
      unfold l0 at H
      replace H := let_hid H
      obtain ⟨_, rfl, H⟩ := H
      replace H := idx_hid H
      obtain ⟨nt_14, yt_14, et_14, lt_14, gt_14, H⟩ := H
      obtain rfl : k0 = nt_14 := by omega
      clear et_14
      obtain ⟨t_14_leave, t_14_from_, t_14_to_, t_14_arrive⟩ := yt_14
      replace H := unMail_hid H
      obtain ⟨ab_t_14, ao_t_14, zt_14, At_14, z_t_14, ct_14_0, ct_14_1, ct_14_2, ct_14_3⟩ := Go.Proofs.Ytfjcibkgbalkaaa.OMail.at_ M0.out lt_14
      obtain rfl := Option.some.inj (gt_14.out.symm.trans z_t_14)
      subst At_14
      have ltt_14 := cell_lt ct_14_0
      replace ct_14_0 := cell_below HBwr0.out ct_14_0
      replace ct_14_1 := cell_below HBwr0.out ct_14_1
      replace ct_14_2 := cell_below HBwr0.out ct_14_2
      replace ct_14_3 := cell_below HBwr0.out ct_14_3
      clear z_t_14
      have b0t_14 : (0 : Int) ≤ (k0 : Int) := by omega
      have b1t_14 : (k0 : Int) < ((a.length : Nat) : Int) := by omega
      have b2t_14 : ((k0 : Int)).toNat = k0 := by omega
      replace H := bind_hid H
      obtain ⟨t_16, qt_16, H⟩ := H
      obtain ⟨t_16_leave, t_16_from_, t_16_to_, t_16_arrive⟩ := t_16
      replace H := unMail_hid H
      go_wp2_with fail
      go_at_call 106
      refine (Go.Proofs.Ytfjcibkgbalkaaa.GlToMail.C ((Go.Proofs.Ytfjcibkgbalkaaa.PMail.Mail.mk t_14_leave t_14_from_ t_14_to_ t_14_arrive))  _    qt_16).mono ?_
      rintro e_t_16 wt_16 ⟨rfl, bt_16⟩
      unfold Go.Proofs.Ytfjcibkgbalkaaa.PMail.Mail.val
      have HBwt_16 := Lib.hid (Below.step HBwr0.out bt_16)
      replace ct_14_0 := cell_below bt_16 ct_14_0
      replace ct_14_1 := cell_below bt_16 ct_14_1
      replace ct_14_2 := cell_below bt_16 ct_14_2
      replace ct_14_3 := cell_below bt_16 ct_14_3
      replace Oout_3l0 := Lib.hid (own_below Oout_3l0.out bt_16)
      clear bt_16
      replace H := idx_hid H
      obtain ⟨nt_17, yt_17, et_17, lt_17, gt_17, H⟩ := H
      obtain rfl : k0 = nt_17 := by omega
      clear et_17
      obtain ⟨t_17_leave, t_17_from_, t_17_to_, t_17_arrive⟩ := yt_17
      replace H := unMail_hid H
      have hqt_17 := hnout_3l0.out
      obtain ⟨ab_t_17, ao_t_17, zt_17, At_17, z_t_17, ct_17_0, ct_17_1, ct_17_2, ct_17_3⟩ := Go.Proofs.Ytfjcibkgbalkaaa.OMail.at_ (own_cells Oout_3l0.out) (k := k0) (by omega)
      obtain rfl := Option.some.inj (gt_17.out.symm.trans z_t_17)
      simp only [Option.some.injEq, Addr.mk.injEq] at At_17
      obtain ⟨rfl, rfl, _⟩ := At_17
      clear z_t_17
      simp only [Nat.zero_add] at ct_17_0 ct_17_1 ct_17_2 ct_17_3
      have b0t_17 : (0 : Int) ≤ (k0 : Int) := by omega
      have b1t_17 : (k0 : Int) < ((t_3.length : Nat) : Int) := by omega
      have b2t_17 : ((k0 : Int)).toNat = k0 := by omega
      clear hqt_17
      replace H := let_hid H
      obtain ⟨l18_18, hl18_18, H⟩ := H
      try simp only [Int.toNat_natCast] at hl18_18
      obtain ⟨wl18_18, hwl18_18⟩ : ∃ x, ((((wt_16).setCell ⟨w.heap.size, k0 * 4, none⟩ (.int .i64 t_16_leave)).setCell ⟨w.heap.size, k0 * 4 + 1, none⟩ (.int .i64 t_16_from_)).setCell ⟨w.heap.size, k0 * 4 + 2, none⟩ (.int .i64 t_16_to_)).setCell ⟨w.heap.size, k0 * 4 + 3, none⟩ (.int .i64 t_16_arrive) = x := ⟨_, rfl⟩
      have z0l18_18 := Oout_3l0.out.frozenAt (k0 * 4)
      have z1l18_18 := Oout_3l0.out.frozenAt (k0 * 4 + 1)
      have z2l18_18 := Oout_3l0.out.frozenAt (k0 * 4 + 2)
      have z3l18_18 := Oout_3l0.out.frozenAt (k0 * 4 + 3)
      have Sl18_18 := Lib.hid (own_stores [(k0 * 4, .int .i64 t_16_leave), (k0 * 4 + 1, .int .i64 t_16_from_), (k0 * 4 + 2, .int .i64 t_16_to_), (k0 * 4 + 3, .int .i64 t_16_arrive)] Oout_3l0.out)
      have nl18_18 : Hid (l18_18.length = t_3.length) := Lib.hid (by rw [← hl18_18, List.length_set]; exact hnout_3l0.out)
      have Pl18_18 : Hid (wl18_18.ownsRow w.heap.size 95 4 (.slice (some ⟨w.heap.size, 0, none⟩) t_3.length a.length) t_3.length (Go.Proofs.Ytfjcibkgbalkaaa.PMail.flat l18_18)) := Lib.hid (by have es_ := set_self gt_17.out; have e0_ := flat_set Go.Proofs.Ytfjcibkgbalkaaa.PMail.Mail.cells 4 (fun _ => rfl) out_3l0 (k0) 0 (Go.Proofs.Ytfjcibkgbalkaaa.PMail.Mail.mk t_17_leave t_17_from_ t_17_to_ t_17_arrive) (Go.Proofs.Ytfjcibkgbalkaaa.PMail.Mail.mk t_16_leave t_17_from_ t_17_to_ t_17_arrive) (.int .i64 t_16_leave) lt_17 (by decide) rfl; have e1_ := flat_set Go.Proofs.Ytfjcibkgbalkaaa.PMail.Mail.cells 4 (fun _ => rfl) out_3l0 (k0) 1 (Go.Proofs.Ytfjcibkgbalkaaa.PMail.Mail.mk t_16_leave t_17_from_ t_17_to_ t_17_arrive) (Go.Proofs.Ytfjcibkgbalkaaa.PMail.Mail.mk t_16_leave t_16_from_ t_17_to_ t_17_arrive) (.int .i64 t_16_from_) lt_17 (by decide) rfl; have e2_ := flat_set Go.Proofs.Ytfjcibkgbalkaaa.PMail.Mail.cells 4 (fun _ => rfl) out_3l0 (k0) 2 (Go.Proofs.Ytfjcibkgbalkaaa.PMail.Mail.mk t_16_leave t_16_from_ t_17_to_ t_17_arrive) (Go.Proofs.Ytfjcibkgbalkaaa.PMail.Mail.mk t_16_leave t_16_from_ t_16_to_ t_17_arrive) (.int .i64 t_16_to_) lt_17 (by decide) rfl; have e3_ := flat_set Go.Proofs.Ytfjcibkgbalkaaa.PMail.Mail.cells 4 (fun _ => rfl) out_3l0 (k0) 3 (Go.Proofs.Ytfjcibkgbalkaaa.PMail.Mail.mk t_16_leave t_16_from_ t_16_to_ t_17_arrive) (Go.Proofs.Ytfjcibkgbalkaaa.PMail.Mail.mk t_16_leave t_16_from_ t_16_to_ t_16_arrive) (.int .i64 t_16_arrive) lt_17 (by decide) rfl; rw [es_] at e0_; have e_ : ([(k0 * 4, .int .i64 t_16_leave), (k0 * 4 + 1, .int .i64 t_16_from_), (k0 * 4 + 2, .int .i64 t_16_to_), (k0 * 4 + 3, .int .i64 t_16_arrive)] : List (Nat × Value)).foldl (fun xs p => xs.set p.1 p.2) (Go.Proofs.Ytfjcibkgbalkaaa.PMail.flat out_3l0) = (Go.Proofs.Ytfjcibkgbalkaaa.PMail.flat l18_18) := (by rw [← hl18_18]; show _ = List.flatMap Go.Proofs.Ytfjcibkgbalkaaa.PMail.Mail.cells _; first | (rw [← e3_, ← e2_, ← e1_, ← e0_]; first | done | rfl) | (rw [← e3_, ← e2_, ← e1_, es_, ← e0_]; first | done | rfl)); rw [← hwl18_18, ← e_]; exact Sl18_18.out.1)
      have Gl18_18 : Hid (wt_16.grownBy wl18_18 (Value.slice (some ⟨w.heap.size, 0, none⟩) t_3.length a.length).ownBlock) := Lib.hid (by rw [← hwl18_18]; exact Sl18_18.out.2)
      have HBwl18_18 := Lib.hid (HBwt_16.out.grown Gl18_18.out HBwt_16.out.size (fun q hq => (Oout_3l0.out.lt q hq).1))
      have hhl18_18 := Lib.hid hl18_18
      clear hl18_18 Sl18_18
      have ct_14_0__300 := cell_other ct_14_0 Gl18_18.out (apart_old Oout_3l0.out ltt_14)
      have ct_14_1__301 := cell_other ct_14_1 Gl18_18.out (apart_old Oout_3l0.out ltt_14)
      have ct_14_2__302 := cell_other ct_14_2 Gl18_18.out (apart_old Oout_3l0.out ltt_14)
      have ct_14_3__303 := cell_other ct_14_3 Gl18_18.out (apart_old Oout_3l0.out ltt_14)
      clear Oout_3l0 Gl18_18
      replace H := app_hid H
      go_wp2_with fail
      clear z0l18_18 z1l18_18 z2l18_18 z3l18_18 ct_14_0 ct_14_1 ct_14_2 ct_14_3 ct_17_0 ct_17_1 ct_17_2 ct_17_3
      go_roundg m0
      case measure => omega
      case rel => exact ⟨k0 + 1, _, by omega, by go_num, H, HBwl18_18, Pl18_18, Lib.hid (nl18_18.out)⟩
end Go.Proofs.Ytfjcibkgbalkaaa.GlToMailS
