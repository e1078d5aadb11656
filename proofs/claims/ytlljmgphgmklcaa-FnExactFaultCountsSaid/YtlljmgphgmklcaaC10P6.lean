/- Texts on which the proofs of several laws stand, one behind the other (6 of 21). No condition of their own. -/
import Derived.Test.YtlljmgphgmklcaaChecked
import Derived.Test.YtlljmgphgmklcaaC10P1
import Derived.Test.YtlljmgphgmklcaaC10P4
import Derived.Test.YtlljmgphgmklcaaC10P5
import Derived.WalkKit
import Derived.WalkSpells
import Derived.WalkLawsBesides
import Derived.BigQuiet
import Derived.OwnWalk
import Derived.Deep.LoopGhost
import Derived.Deep.QuietTactic
import Derived.IntWalk
import Derived.Lib.QuietBelow
import Derived.Deep.RegionHeld3
import Derived.Laws.EntriesVeiled
import Derived.StillTailTactics
/- loop.example/g01062/laws.toMailS as a plain function, and the contract of the program's: where the plain one has an answer, the program has it. Conditions: slices read as lists. -/
namespace Go.Proofs.Ytlljmgphgmklcaa.GlToMailS
set_option linter.unusedVariables false
set_option linter.unusedSimpArgs false
open Go.RowKit
open Go.Proofs.Ytlljmgphgmklcaa.Rowed Go.Proofs.Ytlljmgphgmklcaa.Turn Go.Proofs.Ytlljmgphgmklcaa.Aid Go.Proofs.Ytlljmgphgmklcaa.GoP Go.Proofs.Ytlljmgphgmklcaa.GoM

def l0 (a : (List Go.Proofs.Ytlljmgphgmklcaa.PMail.Mail)) (k0 : Nat) (s : (List Go.Proofs.Ytlljmgphgmklcaa.PMail.Mail)) (nx0 bk0 : (List Go.Proofs.Ytlljmgphgmklcaa.PMail.Mail) → Option ((List Go.Proofs.Ytlljmgphgmklcaa.PMail.Mail))) : Option ((List Go.Proofs.Ytlljmgphgmklcaa.PMail.Mail)) :=
  letK s fun out_3l0 =>
  Option.bind (idx a (k0 : Int)) fun (yt_14 : Go.Proofs.Ytlljmgphgmklcaa.PMail.Mail) =>
  unMail yt_14 fun (t_14_leave : Int) (t_14_from_ : Int) (t_14_to_ : Int) (t_14_arrive : Int) =>
  Option.bind (Go.Proofs.Ytlljmgphgmklcaa.GlToMail.P (Go.Proofs.Ytlljmgphgmklcaa.PMail.Mail.mk t_14_leave t_14_from_ t_14_to_ t_14_arrive)) fun (t_16 : Go.Proofs.Ytlljmgphgmklcaa.PMail.Mail) =>
  unMail t_16 fun (t_16_leave : Int) (t_16_from_ : Int) (t_16_to_ : Int) (t_16_arrive : Int) =>
  Option.bind (idx out_3l0 (k0 : Int)) fun (yt_17 : Go.Proofs.Ytlljmgphgmklcaa.PMail.Mail) =>
  unMail yt_17 fun (t_17_leave : Int) (t_17_from_ : Int) (t_17_to_ : Int) (t_17_arrive : Int) =>
  letK (out_3l0.set k0 (Go.Proofs.Ytlljmgphgmklcaa.PMail.Mail.mk t_16_leave t_16_from_ t_16_to_ t_16_arrive)) fun (l18_18 : (List Go.Proofs.Ytlljmgphgmklcaa.PMail.Mail)) =>
  appK nx0 (l18_18)

def e0  (s : (List Go.Proofs.Ytlljmgphgmklcaa.PMail.Mail)) : Option ((List Go.Proofs.Ytlljmgphgmklcaa.PMail.Mail)) :=
  letK s fun out_3l0 =>
  some out_3l0

def P (a : (List Go.Proofs.Ytlljmgphgmklcaa.PMail.Mail)) : Option ((List Go.Proofs.Ytlljmgphgmklcaa.PMail.Mail)) :=
  guardK (0 ≤ (a.length : Int) ∧ (a.length : Int) ≤ 1099511627776) <|
  letK (List.replicate a.length (Go.Proofs.Ytlljmgphgmklcaa.PMail.Mail.mk 0 0 0 0)) fun (t_3 : (List Go.Proofs.Ytlljmgphgmklcaa.PMail.Mail)) =>
  cntK (l0 a) (a.length) 0 (t_3) (e0 )

set_option maxRecDepth 100000 in
set_option maxHeartbeats 2000000 in
theorem C (a : (List Go.Proofs.Ytlljmgphgmklcaa.PMail.Mail)) (A0 : Option Addr) (c0 : Nat)  (w : World) (M0 : Hid (Cells w 4 A0 a.length (Go.Proofs.Ytlljmgphgmklcaa.PMail.flat a))) (N0 : Hid (a.length ≤ 9223372036854775807))  {r : (List Go.Proofs.Ytlljmgphgmklcaa.PMail.Mail)} (H : Hid (P a = some r)) :
    Calls Try.prog 28 #[.slice A0 a.length c0] w (fun e w' => ∃ A_r c_r, e = .returned (.slice A_r r.length c_r) ∧ w'.ownsRow w.heap.size 108 4 (.slice A_r r.length c_r) r.length (Go.Proofs.Ytlljmgphgmklcaa.PMail.flat r) ∧ Below w.heap.size w w') := by
  have HB := Lib.hid (Below.refl w.heap.size w)
  unfold P at H
  have N0o := N0.out
  obtain ⟨i0_108, hi_108, hz0_108, hz1_108, hz2_108⟩ := Aid.info_parts (P := Try.prog) (T := 108) (z := .agg #[.int .i64 0, .int .i64 0, .int .i64 0, .int .i64 0]) (s := 4) (b := 32) (by kernel_rfl)
  go_enter Try.func28, Try.ntmps28
  replace H := guard_hid H
  obtain ⟨hnt_3, H⟩ := H
  replace H := let_hid H
  obtain ⟨t_3, ht_3, H⟩ := H
  have hst_3 := HB.out.size
  have hlt_3 : t_3.length = a.length := by rw [← ht_3]; simp
  have hht_3 := Lib.hid ht_3
  clear ht_3
  go_wp2_with (at_make; refine wpList_make_full _ rfl _ _ 43 rfl w.heap.size 108 i0_108 (.agg #[.int .i64 0, .int .i64 0, .int .i64 0, .int .i64 0]) 4 Try.underlying43 hi_108 hz0_108 hz1_108 .i64 .i64 _ _ a.length rfl rfl (by omega) (by omega) (by rw [hz2_108]; omega) (by unfold maxLen; omega) hst_3 ?_; intro wt_3 ot_3 gt_3; have Qt_3 := Lib.hid ot_3; have Gt_3 := Lib.hid gt_3; clear ot_3 gt_3; refine stop_in ?_)
  refine stop_out ?_
  have hv_ : (Value.slice (some ⟨w.heap.size, 0, none⟩) a.length a.length : Value) = Value.slice (some ⟨w.heap.size, 0, none⟩) t_3.length a.length := by rw [hlt_3]
  rw [hv_]
  clear hv_
  have Et_3 : (Go.Proofs.Ytlljmgphgmklcaa.PMail.flat t_3) = (madeCells (.agg #[.int .i64 0, .int .i64 0, .int .i64 0, .int .i64 0] : Value).cells (a.length * 4)).toList := by
    rw [made_flat Go.Proofs.Ytlljmgphgmklcaa.PMail.Mail.cells (Go.Proofs.Ytlljmgphgmklcaa.PMail.Mail.mk 0 0 0 0) _ 4 _ rfl rfl (by decide), ← hht_3.out]
    rfl
  have Pt_3 : Hid (wt_3.ownsRow w.heap.size 108 4 (.slice (some ⟨w.heap.size, 0, none⟩) a.length a.length) a.length (Go.Proofs.Ytlljmgphgmklcaa.PMail.flat t_3)) := Lib.hid (by rw [Et_3]; exact Qt_3.out)
  clear Et_3
  replace hlt_3 := Lib.hid hlt_3
  clear Qt_3 hst_3
  have bt_3 : Below w.heap.size w wt_3 := (Below.refl _ _).grown Gt_3.out (Nat.le_refl _) (by simp)
  clear Gt_3
  have HBwt_3 := Lib.hid (Below.step HB.out bt_3)
  clear bt_3
  replace Pt_3 := Lib.hid (own_len hlt_3.out Pt_3.out)
  go_wp2_with fail
  go_wp2_with fail
  go_loopg [4] (a.length) (fun m_ v4_ wr => ∃ (k0 : Nat) (out_3l0 : (List Go.Proofs.Ytlljmgphgmklcaa.PMail.Mail)), k0 + m_ = a.length ∧ v4_ = .int .i64 (k0 : Int) ∧ Hid (cntK (l0 a) m_ k0 (out_3l0) (e0 ) = some r) ∧ Hid (Below w.heap.size w wr) ∧ Hid (wr.ownsRow w.heap.size 108 4 (.slice (some ⟨w.heap.size, 0, none⟩) t_3.length a.length) t_3.length (Go.Proofs.Ytlljmgphgmklcaa.PMail.flat out_3l0)) ∧ Hid (out_3l0.length = t_3.length))
  case atStart => exact ⟨0, _, by omega, rfl, H, HBwt_3, Pt_3, Lib.hid (rfl)⟩
  case round =>
    obtain ⟨k0, out_3l0, hkm0, rfl, H, HBwr0, Oout_3l0, hnout_3l0⟩ := hrel
    rename World => wr0
    cases gk with
    | zero =>
      obtain rfl : k0 = a.length := by omega
      have hc0 : decide (((a.length : Nat) : Int) < ((a.length : Nat) : Int)) = false := by simp
      replace H := cnt_zero H
      unfold e0 at H
      replace H := let_hid H
      obtain ⟨_, rfl, H⟩ := H
      obtain rfl := ret_hid H
      go_wp2_with fail
      go_ret
      have hr_0 := hnout_3l0.out
      replace Oout_3l0 := Lib.hid (own_len hr_0 Oout_3l0.out)
      exact ⟨(some ⟨w.heap.size, 0, none⟩), a.length, (by first | (rw [hr_0]; done) | (rw [hr_0]; rfl)), Oout_3l0.out, HBwr0.out⟩
    | succ m0 =>
      have hlt0 : k0 < a.length := by omega
      have hc0 : decide ((k0 : Int) < ((a.length : Nat) : Int)) = true := by simp; omega
      replace H := cnt_succ H
      unfold l0 at H
      replace H := let_hid H
      obtain ⟨_, rfl, H⟩ := H
      replace H := idx_hid H
      obtain ⟨nt_14, yt_14, et_14, lt_14, gt_14, H⟩ := H
      obtain rfl : k0 = nt_14 := by omega
      clear et_14
      obtain ⟨t_14_leave, t_14_from_, t_14_to_, t_14_arrive⟩ := yt_14
      replace H := unMail_hid H
      obtain ⟨ab_t_14, ao_t_14, zt_14, At_14, z_t_14, ct_14_0, ct_14_1, ct_14_2, ct_14_3⟩ := Go.Proofs.Ytlljmgphgmklcaa.OMail.at_ M0.out lt_14
      obtain rfl := Option.some.inj (gt_14.out.symm.trans z_t_14)
      subst At_14
      have ltt_14 := cell_lt ct_14_0
      replace ct_14_0 := cell_below HBwr0.out ct_14_0
      replace ct_14_1 := cell_below HBwr0.out ct_14_1
      replace ct_14_2 := cell_below HBwr0.out ct_14_2
      replace ct_14_3 := cell_below HBwr0.out ct_14_3
      clear z_t_14
      have b0t_14 : (0 : Int) ≤ (k0 : Int) := by omega
      have b1t_14 : (k0 : Int) < ((a.length : Nat) : Int) := by omega
      have b2t_14 : ((k0 : Int)).toNat = k0 := by omega
      replace H := bind_hid H
      obtain ⟨t_16, qt_16, H⟩ := H
      obtain ⟨t_16_leave, t_16_from_, t_16_to_, t_16_arrive⟩ := t_16
      replace H := unMail_hid H
      go_wp2_with fail
      go_at_call 93
      refine (Go.Proofs.Ytlljmgphgmklcaa.GlToMail.C ((Go.Proofs.Ytlljmgphgmklcaa.PMail.Mail.mk t_14_leave t_14_from_ t_14_to_ t_14_arrive))  _    qt_16).mono ?_
      rintro e_t_16 wt_16 ⟨rfl, bt_16⟩
      unfold Go.Proofs.Ytlljmgphgmklcaa.PMail.Mail.val
      have HBwt_16 := Lib.hid (Below.step HBwr0.out bt_16)
      replace ct_14_0 := cell_below bt_16 ct_14_0
      replace ct_14_1 := cell_below bt_16 ct_14_1
      replace ct_14_2 := cell_below bt_16 ct_14_2
      replace ct_14_3 := cell_below bt_16 ct_14_3
      replace Oout_3l0 := Lib.hid (own_below Oout_3l0.out bt_16)
      clear bt_16
      replace H := idx_hid H
      obtain ⟨nt_17, yt_17, et_17, lt_17, gt_17, H⟩ := H
      obtain rfl : k0 = nt_17 := by omega
      clear et_17
      obtain ⟨t_17_leave, t_17_from_, t_17_to_, t_17_arrive⟩ := yt_17
      replace H := unMail_hid H
      have hqt_17 := hnout_3l0.out
      obtain ⟨ab_t_17, ao_t_17, zt_17, At_17, z_t_17, ct_17_0, ct_17_1, ct_17_2, ct_17_3⟩ := Go.Proofs.Ytlljmgphgmklcaa.OMail.at_ (own_cells Oout_3l0.out) (k := k0) (by omega)
      obtain rfl := Option.some.inj (gt_17.out.symm.trans z_t_17)
      simp only [Option.some.injEq, Addr.mk.injEq] at At_17
      obtain ⟨rfl, rfl, _⟩ := At_17
      clear z_t_17
      simp only [Nat.zero_add] at ct_17_0 ct_17_1 ct_17_2 ct_17_3
      have b0t_17 : (0 : Int) ≤ (k0 : Int) := by omega
      have b1t_17 : (k0 : Int) < ((t_3.length : Nat) : Int) := by omega
      have b2t_17 : ((k0 : Int)).toNat = k0 := by omega
      clear hqt_17
      replace H := let_hid H
      obtain ⟨l18_18, hl18_18, H⟩ := H
      try simp only [Int.toNat_natCast] at hl18_18
      obtain ⟨wl18_18, hwl18_18⟩ : ∃ x, ((((wt_16).setCell ⟨w.heap.size, k0 * 4, none⟩ (.int .i64 t_16_leave)).setCell ⟨w.heap.size, k0 * 4 + 1, none⟩ (.int .i64 t_16_from_)).setCell ⟨w.heap.size, k0 * 4 + 2, none⟩ (.int .i64 t_16_to_)).setCell ⟨w.heap.size, k0 * 4 + 3, none⟩ (.int .i64 t_16_arrive) = x := ⟨_, rfl⟩
      have z0l18_18 := Oout_3l0.out.frozenAt (k0 * 4)
      have z1l18_18 := Oout_3l0.out.frozenAt (k0 * 4 + 1)
      have z2l18_18 := Oout_3l0.out.frozenAt (k0 * 4 + 2)
      have z3l18_18 := Oout_3l0.out.frozenAt (k0 * 4 + 3)
      have Sl18_18 := Lib.hid (own_stores [(k0 * 4, .int .i64 t_16_leave), (k0 * 4 + 1, .int .i64 t_16_from_), (k0 * 4 + 2, .int .i64 t_16_to_), (k0 * 4 + 3, .int .i64 t_16_arrive)] Oout_3l0.out)
      have nl18_18 : Hid (l18_18.length = t_3.length) := Lib.hid (by rw [← hl18_18, List.length_set]; exact hnout_3l0.out)
      have Pl18_18 : Hid (wl18_18.ownsRow w.heap.size 108 4 (.slice (some ⟨w.heap.size, 0, none⟩) t_3.length a.length) t_3.length (Go.Proofs.Ytlljmgphgmklcaa.PMail.flat l18_18)) := Lib.hid (by have es_ := set_self gt_17.out; have e0_ := flat_set Go.Proofs.Ytlljmgphgmklcaa.PMail.Mail.cells 4 (fun _ => rfl) out_3l0 (k0) 0 (Go.Proofs.Ytlljmgphgmklcaa.PMail.Mail.mk t_17_leave t_17_from_ t_17_to_ t_17_arrive) (Go.Proofs.Ytlljmgphgmklcaa.PMail.Mail.mk t_16_leave t_17_from_ t_17_to_ t_17_arrive) (.int .i64 t_16_leave) lt_17 (by decide) rfl; have e1_ := flat_set Go.Proofs.Ytlljmgphgmklcaa.PMail.Mail.cells 4 (fun _ => rfl) out_3l0 (k0) 1 (Go.Proofs.Ytlljmgphgmklcaa.PMail.Mail.mk t_16_leave t_17_from_ t_17_to_ t_17_arrive) (Go.Proofs.Ytlljmgphgmklcaa.PMail.Mail.mk t_16_leave t_16_from_ t_17_to_ t_17_arrive) (.int .i64 t_16_from_) lt_17 (by decide) rfl; have e2_ := flat_set Go.Proofs.Ytlljmgphgmklcaa.PMail.Mail.cells 4 (fun _ => rfl) out_3l0 (k0) 2 (Go.Proofs.Ytlljmgphgmklcaa.PMail.Mail.mk t_16_leave t_16_from_ t_17_to_ t_17_arrive) (Go.Proofs.Ytlljmgphgmklcaa.PMail.Mail.mk t_16_leave t_16_from_ t_16_to_ t_17_arrive) (.int .i64 t_16_to_) lt_17 (by decide) rfl; have e3_ := flat_set Go.Proofs.Ytlljmgphgmklcaa.PMail.Mail.cells 4 (fun _ => rfl) out_3l0 (k0) 3 (Go.Proofs.Ytlljmgphgmklcaa.PMail.Mail.mk t_16_leave t_16_from_ t_16_to_ t_17_arrive) (Go.Proofs.Ytlljmgphgmklcaa.PMail.Mail.mk t_16_leave t_16_from_ t_16_to_ t_16_arrive) (.int .i64 t_16_arrive) lt_17 (by decide) rfl; rw [es_] at e0_; have e_ : ([(k0 * 4, .int .i64 t_16_leave), (k0 * 4 + 1, .int .i64 t_16_from_), (k0 * 4 + 2, .int .i64 t_16_to_), (k0 * 4 + 3, .int .i64 t_16_arrive)] : List (Nat × Value)).foldl (fun xs p => xs.set p.1 p.2) (Go.Proofs.Ytlljmgphgmklcaa.PMail.flat out_3l0) = (Go.Proofs.Ytlljmgphgmklcaa.PMail.flat l18_18) := (by rw [← hl18_18]; show _ = List.flatMap Go.Proofs.Ytlljmgphgmklcaa.PMail.Mail.cells _; first | (rw [← e3_, ← e2_, ← e1_, ← e0_]; first | done | rfl) | (rw [← e3_, ← e2_, ← e1_, es_, ← e0_]; first | done | rfl)); rw [← hwl18_18, ← e_]; exact Sl18_18.out.1)
      have Gl18_18 : Hid (wt_16.grownBy wl18_18 (Value.slice (some ⟨w.heap.size, 0, none⟩) t_3.length a.length).ownBlock) := Lib.hid (by rw [← hwl18_18]; exact Sl18_18.out.2)
      have HBwl18_18 := Lib.hid (HBwt_16.out.grown Gl18_18.out HBwt_16.out.size (fun q hq => (Oout_3l0.out.lt q hq).1))
      have hhl18_18 := Lib.hid hl18_18
      clear hl18_18 Sl18_18
      have ct_14_0__73 := cell_other ct_14_0 Gl18_18.out (apart_old Oout_3l0.out ltt_14)
      have ct_14_1__74 := cell_other ct_14_1 Gl18_18.out (apart_old Oout_3l0.out ltt_14)
      have ct_14_2__75 := cell_other ct_14_2 Gl18_18.out (apart_old Oout_3l0.out ltt_14)
      have ct_14_3__76 := cell_other ct_14_3 Gl18_18.out (apart_old Oout_3l0.out ltt_14)
      clear Oout_3l0 Gl18_18
      replace H := app_hid H
      go_wp2_with fail
      clear z0l18_18 z1l18_18 z2l18_18 z3l18_18 ct_14_0 ct_14_1 ct_14_2 ct_14_3 ct_17_0 ct_17_1 ct_17_2 ct_17_3
      go_roundg m0
      case measure => omega
      case rel => exact ⟨k0 + 1, _, by omega, by go_num, H, HBwl18_18, Pl18_18, Lib.hid (nl18_18.out)⟩
end Go.Proofs.Ytlljmgphgmklcaa.GlToMailS

/- loop.example/g01062/spec.l8Good as a plain function, and the contract of the program's: where the plain one has an answer, the program has it. Conditions: slices read as lists. -/
namespace Go.Proofs.Ytlljmgphgmklcaa.GsL8Good
set_option linter.unusedVariables false
set_option linter.unusedSimpArgs false
open Go.RowKit
open Go.Proofs.Ytlljmgphgmklcaa.Rowed Go.Proofs.Ytlljmgphgmklcaa.Turn Go.Proofs.Ytlljmgphgmklcaa.Aid Go.Proofs.Ytlljmgphgmklcaa.GoP Go.Proofs.Ytlljmgphgmklcaa.GoM

def l0 (list : (List Go.Proofs.Ytlljmgphgmklcaa.PRate.Rate)) (s : Int) (nx0 bk0 : Int → Option (Bool)) : Option (Bool) :=
  letK s fun i_3l0 =>
  letK (decide (i_3l0 < (list.length : Int))) fun (t_5 : Bool) =>
  joinK (fun (t_9 : Bool) =>
  iteK t_9
  (Option.bind (idx list i_3l0) fun (yt_12 : Go.Proofs.Ytlljmgphgmklcaa.PRate.Rate) =>
  unRate yt_12 fun (t_12_zone : Int) (t_12_grams : Int) (t_12_from_ : Int) (t_12_until_ : Int) (t_12_cents : Int) =>
  Option.bind (Go.Proofs.Ytlljmgphgmklcaa.GsL8One.P (Go.Proofs.Ytlljmgphgmklcaa.PRate.Rate.mk t_12_zone t_12_grams t_12_from_ t_12_until_ t_12_cents)) fun (t_14 : Bool) =>
  letK (!t_14) fun (t_15 : Bool) =>
  joinK (fun (t_33 : Bool) =>
  iteK t_33
  (some false)
  (letK (decide (0 < i_3l0)) fun (t_36 : Bool) =>
  joinK (fun (t_50 : Bool) =>
  joinK (fun (t_64 : Bool) =>
  joinK (fun (t_78 : Bool) =>
  iteK t_78
  (some false)
  (letK (IntKind.i64.wrap (i_3l0 + 1)) fun (t_81 : Int) =>
  appK nx0 (t_81))) fun jt_78 => iteK t_64 (letK (IntKind.i64.wrap (i_3l0 - 1)) fun (t_68 : Int) =>
  Option.bind (idx list t_68) fun (yt_69 : Go.Proofs.Ytlljmgphgmklcaa.PRate.Rate) =>
  unRate yt_69 fun (t_69_zone : Int) (t_69_grams : Int) (t_69_from_ : Int) (t_69_until_ : Int) (t_69_cents : Int) =>
  Option.bind (idx list i_3l0) fun (yt_74 : Go.Proofs.Ytlljmgphgmklcaa.PRate.Rate) =>
  unRate yt_74 fun (t_74_zone : Int) (t_74_grams : Int) (t_74_from_ : Int) (t_74_until_ : Int) (t_74_cents : Int) =>
  letK (decide (t_74_from_ ≤ t_69_until_)) fun (t_77 : Bool) =>
  appK jt_78 t_77) (appK jt_78 false)) fun jt_64 => iteK t_50 (letK (IntKind.i64.wrap (i_3l0 - 1)) fun (t_54 : Int) =>
  Option.bind (idx list t_54) fun (yt_55 : Go.Proofs.Ytlljmgphgmklcaa.PRate.Rate) =>
  unRate yt_55 fun (t_55_zone : Int) (t_55_grams : Int) (t_55_from_ : Int) (t_55_until_ : Int) (t_55_cents : Int) =>
  Option.bind (idx list i_3l0) fun (yt_60 : Go.Proofs.Ytlljmgphgmklcaa.PRate.Rate) =>
  unRate yt_60 fun (t_60_zone : Int) (t_60_grams : Int) (t_60_from_ : Int) (t_60_until_ : Int) (t_60_cents : Int) =>
  letK (t_55_grams == t_60_grams) fun (t_63 : Bool) =>
  appK jt_64 t_63) (appK jt_64 false)) fun jt_50 => iteK t_36 (letK (IntKind.i64.wrap (i_3l0 - 1)) fun (t_40 : Int) =>
  Option.bind (idx list t_40) fun (yt_41 : Go.Proofs.Ytlljmgphgmklcaa.PRate.Rate) =>
  unRate yt_41 fun (t_41_zone : Int) (t_41_grams : Int) (t_41_from_ : Int) (t_41_until_ : Int) (t_41_cents : Int) =>
  Option.bind (idx list i_3l0) fun (yt_46 : Go.Proofs.Ytlljmgphgmklcaa.PRate.Rate) =>
  unRate yt_46 fun (t_46_zone : Int) (t_46_grams : Int) (t_46_from_ : Int) (t_46_until_ : Int) (t_46_cents : Int) =>
  letK (t_41_zone == t_46_zone) fun (t_49 : Bool) =>
  appK jt_50 t_49) (appK jt_50 false))) fun jt_33 => iteK t_15 (appK jt_33 true) (letK (decide (0 < i_3l0)) fun (t_18 : Bool) =>
  joinK (fun (t_32 : Bool) =>
  appK jt_33 t_32) fun jt_32 => iteK t_18 (letK (IntKind.i64.wrap (i_3l0 - 1)) fun (t_22 : Int) =>
  Option.bind (idx list t_22) fun (yt_23 : Go.Proofs.Ytlljmgphgmklcaa.PRate.Rate) =>
  unRate yt_23 fun (t_23_zone : Int) (t_23_grams : Int) (t_23_from_ : Int) (t_23_until_ : Int) (t_23_cents : Int) =>
  Option.bind (Go.Proofs.Ytlljmgphgmklcaa.GsL8Code.P (Go.Proofs.Ytlljmgphgmklcaa.PRate.Rate.mk t_23_zone t_23_grams t_23_from_ t_23_until_ t_23_cents)) fun (t_25 : Int) =>
  Option.bind (idx list i_3l0) fun (yt_28 : Go.Proofs.Ytlljmgphgmklcaa.PRate.Rate) =>
  unRate yt_28 fun (t_28_zone : Int) (t_28_grams : Int) (t_28_from_ : Int) (t_28_until_ : Int) (t_28_cents : Int) =>
  Option.bind (Go.Proofs.Ytlljmgphgmklcaa.GsL8Code.P (Go.Proofs.Ytlljmgphgmklcaa.PRate.Rate.mk t_28_zone t_28_grams t_28_from_ t_28_until_ t_28_cents)) fun (t_30 : Int) =>
  letK (decide (t_30 ≤ t_25)) fun (t_31 : Bool) =>
  appK jt_32 t_31) (appK jt_32 false)))
  (appK bk0 (i_3l0))) fun jt_9 => iteK t_5 (letK (decide (i_3l0 ≤ 16)) fun (t_8 : Bool) =>
  appK jt_9 t_8) (appK jt_9 false)

def e0 (list : (List Go.Proofs.Ytlljmgphgmklcaa.PRate.Rate)) (s : Int) : Option (Bool) :=
  letK s fun i_3l0 =>
  letK (decide ((list.length : Int) ≤ 16)) fun (t_85 : Bool) =>
  some t_85

def P (fuel : Nat) (list : (List Go.Proofs.Ytlljmgphgmklcaa.PRate.Rate)) : Option (Bool) :=
  loopK (l0 list) fuel (0) (e0 list)

set_option maxRecDepth 100000 in
set_option maxHeartbeats 2000000 in
theorem C (fuel : Nat) (list : (List Go.Proofs.Ytlljmgphgmklcaa.PRate.Rate)) (A0 : Option Addr) (c0 : Nat)  (w : World) (M0 : Hid (Cells w 5 A0 list.length (Go.Proofs.Ytlljmgphgmklcaa.PRate.flat list))) (N0 : Hid (list.length ≤ 9223372036854775807))  {r : Bool} (H : Hid (P fuel list = some r)) :
    Calls Try.prog 89 #[.slice A0 list.length c0] w (Gives (.bool r) w) := by
  have HB := Lib.hid (Below.refl w.heap.size w)
  unfold P at H
  have N0o := N0.out
  go_enter Try.func89, Try.ntmps89
  go_wp2_with fail
  go_loopg [3] (fuel) (fun m_ v3_ wr => ∃ (i_3l0 : Int), v3_ = .int .i64 i_3l0 ∧ Hid (loopK (l0 list) m_ (i_3l0) (e0 list) = some r) ∧ Hid (Below w.heap.size w wr))
  case atStart => exact ⟨_, rfl, H, HB⟩
  case round =>
    obtain ⟨i_3l0, rfl, H, HBwr0⟩ := hrel
    rename World => wr0
    cases gk with
    | zero => exact (loop_zero H).elim
    | succ m0 =>
      replace H := loop_succ H
      unfold l0 at H
      replace H := let_hid H
      obtain ⟨_, rfl, H⟩ := H
      replace H := let_hid H
      obtain ⟨t_5, ht_5, H⟩ := H
      replace H := join_hid H
      cases t_5 with
      | false =>
        replace H := ite_f H
        replace H := app_hid H
        replace H := ite_f H
        replace H := app_hid H
        unfold e0 at H
        replace H := let_hid H
        obtain ⟨_, rfl, H⟩ := H
        replace H := let_hid H
        obtain ⟨t_85, ht_85, H⟩ := H
        obtain rfl := ret_hid H
        go_wp2_with fail
        go_ret
        exact ⟨rfl, HBwr0.out⟩
      | true =>
        replace H := ite_t H
        replace H := let_hid H
        obtain ⟨t_8, ht_8, H⟩ := H
        replace H := app_hid H
        cases t_8 with
        | false =>
          replace H := ite_f H
          replace H := app_hid H
          unfold e0 at H
          replace H := let_hid H
          obtain ⟨_, rfl, H⟩ := H
          replace H := let_hid H
          obtain ⟨t_85, ht_85, H⟩ := H
          obtain rfl := ret_hid H
          go_wp2_with fail
          go_ret
          exact ⟨rfl, HBwr0.out⟩
        | true =>
          replace H := ite_t H
          go_wp2_with fail
          replace H := idx_hid H
          obtain ⟨nt_12, yt_12, et_12, lt_12, gt_12, H⟩ := H
          subst et_12
          have nc_493 : nt_12 < list.length := by have := of_decide_eq_true ht_5; omega
          have nc_494 : nt_12 ≤ 16 := by have := of_decide_eq_true ht_8; omega
          obtain ⟨t_12_zone, t_12_grams, t_12_from_, t_12_until_, t_12_cents⟩ := yt_12
          replace H := unRate_hid H
          obtain ⟨ab_t_12, ao_t_12, zt_12, At_12, z_t_12, ct_12_0, ct_12_1, ct_12_2, ct_12_3, ct_12_4⟩ := Go.Proofs.Ytlljmgphgmklcaa.ORate.at_ M0.out lt_12
          obtain rfl := Option.some.inj (gt_12.out.symm.trans z_t_12)
          subst At_12
          have ltt_12 := cell_lt ct_12_0
          replace ct_12_0 := cell_below HBwr0.out ct_12_0
          replace ct_12_1 := cell_below HBwr0.out ct_12_1
          replace ct_12_2 := cell_below HBwr0.out ct_12_2
          replace ct_12_3 := cell_below HBwr0.out ct_12_3
          replace ct_12_4 := cell_below HBwr0.out ct_12_4
          clear z_t_12
          have b0t_12 : (0 : Int) ≤ (nt_12 : Int) := by omega
          have b1t_12 : (nt_12 : Int) < ((list.length : Nat) : Int) := by omega
          have b2t_12 : ((nt_12 : Int)).toNat = nt_12 := by omega
          have Hct_12_0 := Lib.hid ct_12_0
          replace ct_12_0 := cell_regrown ct_12_0
          have Hct_12_1 := Lib.hid ct_12_1
          replace ct_12_1 := cell_regrown ct_12_1
          have Hct_12_2 := Lib.hid ct_12_2
          replace ct_12_2 := cell_regrown ct_12_2
          have Hct_12_3 := Lib.hid ct_12_3
          replace ct_12_3 := cell_regrown ct_12_3
          have Hct_12_4 := Lib.hid ct_12_4
          replace ct_12_4 := cell_regrown ct_12_4
          replace H := bind_hid H
          obtain ⟨t_14, qt_14, H⟩ := H
          have nt_14 : ∀ d os, Calls Try.prog 141 #[.agg #[.int .i64 t_12_zone, .int .i64 t_12_grams, .int .i64 t_12_from_, .int .i64 t_12_until_, .int .i64 t_12_cents]] (Go.Sort.grow (redrawn wr0 d) os) fun e w'' => e = .returned (.bool t_14) ∧ ∃ p : Regrown, w'' = Go.Sort.grow (redrawn wr0 p.d) p.os := fun d os => Calls.regrown_of (Go.Proofs.Ytlljmgphgmklcaa.GsL8One.C ((Go.Proofs.Ytlljmgphgmklcaa.PRate.Rate.mk t_12_zone t_12_grams t_12_from_ t_12_until_ t_12_cents))  _    qt_14)
          cases t_14 with
          | false =>
            replace H := let_hid H
            obtain ⟨t_15, ht_15, H⟩ := H
            obtain rfl : t_15 = true := ht_15.symm
            replace H := join_hid H
            replace H := ite_t H
            replace H := app_hid H
            refine wp_region_quiet_below (by kernel_rfl) (by kernel_rfl) ?_
            repeat (go_big_quiet_step (first | (go_at_call 141; exact nt_14 _ _)))
            refine wpQuiet_nil ?_
            intro Y4 hY4
            replace hY4 := below_class hY4
            clear nt_14
            replace ct_12_0 := Hct_12_0.out
            clear Hct_12_0
            replace ct_12_1 := Hct_12_1.out
            clear Hct_12_1
            replace ct_12_2 := Hct_12_2.out
            clear Hct_12_2
            replace ct_12_3 := Hct_12_3.out
            clear Hct_12_3
            replace ct_12_4 := Hct_12_4.out
            clear Hct_12_4
            have HBY4 := Lib.hid (Below.step HBwr0.out hY4)
            replace ct_12_0 := cell_below hY4 ct_12_0
            replace ct_12_1 := cell_below hY4 ct_12_1
            replace ct_12_2 := cell_below hY4 ct_12_2
            replace ct_12_3 := cell_below hY4 ct_12_3
            replace ct_12_4 := cell_below hY4 ct_12_4
            clear hY4
            replace H := ite_t H
            obtain rfl := ret_hid H
            go_wp2_with fail
            go_ret
            exact ⟨rfl, HBY4.out⟩
          | true =>
            replace H := let_hid H
            obtain ⟨t_15, ht_15, H⟩ := H
            obtain rfl : t_15 = false := ht_15.symm
            replace H := join_hid H
            replace H := ite_f H
            replace H := let_hid H
            obtain ⟨t_18, ht_18, H⟩ := H
            replace H := join_hid H
            cases t_18 with
            | false =>
              have nht_18 : ¬ (0 < nt_12) := by have := of_decide_eq_false ht_18; omega
              replace H := ite_f H
              replace H := app_hid H
              replace H := app_hid H
              refine wp_region_quiet_below (by kernel_rfl) (by kernel_rfl) ?_
              repeat (go_big_quiet_step (first | (go_at_call 141; exact nt_14 _ _)))
              refine wpQuiet_nil ?_
              intro Y4 hY4
              replace hY4 := below_class hY4
              clear nt_14
              replace ct_12_0 := Hct_12_0.out
              clear Hct_12_0
              replace ct_12_1 := Hct_12_1.out
              clear Hct_12_1
              replace ct_12_2 := Hct_12_2.out
              clear Hct_12_2
              replace ct_12_3 := Hct_12_3.out
              clear Hct_12_3
              replace ct_12_4 := Hct_12_4.out
              clear Hct_12_4
              have HBY4 := Lib.hid (Below.step HBwr0.out hY4)
              replace ct_12_0 := cell_below hY4 ct_12_0
              replace ct_12_1 := cell_below hY4 ct_12_1
              replace ct_12_2 := cell_below hY4 ct_12_2
              replace ct_12_3 := cell_below hY4 ct_12_3
              replace ct_12_4 := cell_below hY4 ct_12_4
              clear hY4
              replace H := ite_f H
              go_wp2_with fail
              have Hct_12_0 := Lib.hid ct_12_0
              replace ct_12_0 := cell_regrown ct_12_0
              have Hct_12_1 := Lib.hid ct_12_1
              replace ct_12_1 := cell_regrown ct_12_1
              have Hct_12_2 := Lib.hid ct_12_2
              replace ct_12_2 := cell_regrown ct_12_2
              have Hct_12_3 := Lib.hid ct_12_3
              replace ct_12_3 := cell_regrown ct_12_3
              have Hct_12_4 := Lib.hid ct_12_4
              replace ct_12_4 := cell_regrown ct_12_4
              replace H := let_hid H
              obtain ⟨t_36, ht_36, H⟩ := H
              obtain rfl := ht_18.symm.trans ht_36
              replace H := join_hid H
              replace H := ite_f H
              replace H := app_hid H
              replace H := join_hid H
              replace H := ite_f H
              replace H := app_hid H
              replace H := join_hid H
              replace H := ite_f H
              replace H := app_hid H
              refine wp_region_quiet_below (by kernel_rfl) (by kernel_rfl) ?_
              repeat (go_big_quiet_step (fail))
              refine wpQuiet_nil ?_
              intro Y6 hY6
              replace hY6 := below_class hY6
              replace ct_12_0 := Hct_12_0.out
              clear Hct_12_0
              replace ct_12_1 := Hct_12_1.out
              clear Hct_12_1
              replace ct_12_2 := Hct_12_2.out
              clear Hct_12_2
              replace ct_12_3 := Hct_12_3.out
              clear Hct_12_3
              replace ct_12_4 := Hct_12_4.out
              clear Hct_12_4
              have HBY6 := Lib.hid (Below.step HBY4.out hY6)
              replace ct_12_0 := cell_below hY6 ct_12_0
              replace ct_12_1 := cell_below hY6 ct_12_1
              replace ct_12_2 := cell_below hY6 ct_12_2
              replace ct_12_3 := cell_below hY6 ct_12_3
              replace ct_12_4 := cell_below hY6 ct_12_4
              clear hY6
              replace H := ite_f H
              replace H := let_hid H
              obtain ⟨t_81, ht_81, H⟩ := H
              replace H := app_hid H
              go_wp2_with fail
              go_roundg m0
              case measure => omega
              case rel => exact ⟨_, rfl, H, HBY6⟩
            | true =>
              have nht_18 : 0 < nt_12 := by have := of_decide_eq_true ht_18; omega
              replace H := ite_t H
              replace H := let_hid H
              obtain ⟨t_22, ht_22, H⟩ := H
              replace H := idx_hid H
              obtain ⟨nt_23, yt_23, et_23, lt_23, gt_23, H⟩ := H
              subst et_23
              obtain ⟨t_23_zone, t_23_grams, t_23_from_, t_23_until_, t_23_cents⟩ := yt_23
              replace H := unRate_hid H
              obtain ⟨ab_t_23, ao_t_23, zt_23, At_23, z_t_23, ct_23_0, ct_23_1, ct_23_2, ct_23_3, ct_23_4⟩ := Go.Proofs.Ytlljmgphgmklcaa.ORate.at_ M0.out lt_23
              obtain rfl := Option.some.inj (gt_23.out.symm.trans z_t_23)
              simp only [Option.some.injEq, Addr.mk.injEq] at At_23
              obtain ⟨rfl, rfl, _⟩ := At_23
              have ltt_23 := cell_lt ct_23_0
              replace ct_23_0 := cell_below HBwr0.out ct_23_0
              replace ct_23_1 := cell_below HBwr0.out ct_23_1
              replace ct_23_2 := cell_below HBwr0.out ct_23_2
              replace ct_23_3 := cell_below HBwr0.out ct_23_3
              replace ct_23_4 := cell_below HBwr0.out ct_23_4
              clear z_t_23
              have b0t_23 : (0 : Int) ≤ (nt_23 : Int) := by omega
              have b1t_23 : (nt_23 : Int) < ((list.length : Nat) : Int) := by omega
              have b2t_23 : ((nt_23 : Int)).toNat = nt_23 := by omega
              have Hct_23_0 := Lib.hid ct_23_0
              replace ct_23_0 := cell_regrown ct_23_0
              have Hct_23_1 := Lib.hid ct_23_1
              replace ct_23_1 := cell_regrown ct_23_1
              have Hct_23_2 := Lib.hid ct_23_2
              replace ct_23_2 := cell_regrown ct_23_2
              have Hct_23_3 := Lib.hid ct_23_3
              replace ct_23_3 := cell_regrown ct_23_3
              have Hct_23_4 := Lib.hid ct_23_4
              replace ct_23_4 := cell_regrown ct_23_4
              replace H := bind_hid H
              obtain ⟨t_25, qt_25, H⟩ := H
              have nt_25 : ∀ d os, Calls Try.prog 142 #[.agg #[.int .i64 t_23_zone, .int .i64 t_23_grams, .int .i64 t_23_from_, .int .i64 t_23_until_, .int .i64 t_23_cents]] (Go.Sort.grow (redrawn wr0 d) os) fun e w'' => e = .returned (.int .i64 t_25) ∧ ∃ p : Regrown, w'' = Go.Sort.grow (redrawn wr0 p.d) p.os := fun d os => Calls.regrown_of (Go.Proofs.Ytlljmgphgmklcaa.GsL8Code.C ((Go.Proofs.Ytlljmgphgmklcaa.PRate.Rate.mk t_23_zone t_23_grams t_23_from_ t_23_until_ t_23_cents))  _    qt_25)
              replace H := idx_hid H
              obtain ⟨nt_28, yt_28, et_28, lt_28, gt_28, H⟩ := H
              obtain rfl : nt_12 = nt_28 := by omega
              clear et_28
              obtain rfl := Option.some.inj (gt_12.out.symm.trans gt_28.out)
              clear gt_28 lt_28
              replace H := unRate_hid H
              replace H := bind_hid H
              obtain ⟨t_30, qt_30, H⟩ := H
              have nt_30 : ∀ d os, Calls Try.prog 142 #[.agg #[.int .i64 t_12_zone, .int .i64 t_12_grams, .int .i64 t_12_from_, .int .i64 t_12_until_, .int .i64 t_12_cents]] (Go.Sort.grow (redrawn wr0 d) os) fun e w'' => e = .returned (.int .i64 t_30) ∧ ∃ p : Regrown, w'' = Go.Sort.grow (redrawn wr0 p.d) p.os := fun d os => Calls.regrown_of (Go.Proofs.Ytlljmgphgmklcaa.GsL8Code.C ((Go.Proofs.Ytlljmgphgmklcaa.PRate.Rate.mk t_12_zone t_12_grams t_12_from_ t_12_until_ t_12_cents))  _    qt_30)
              replace H := let_hid H
              obtain ⟨t_31, ht_31, H⟩ := H
              replace H := app_hid H
              replace H := app_hid H
              refine wp_region_quiet_below (by kernel_rfl) (by kernel_rfl) ?_
              repeat (go_big_quiet_step (first | (go_at_call 142; with_reducible exact nt_25 _ _) | (go_at_call 142; with_reducible exact nt_30 _ _) | (go_at_call 141; exact nt_14 _ _) | (go_at_call 142; exact nt_25 _ _) | (go_at_call 142; exact nt_30 _ _)))
              refine wpQuiet_nil ?_
              intro Y4 hY4
              replace hY4 := below_class hY4
              clear nt_14 nt_25 nt_30
              replace ct_12_0 := Hct_12_0.out
              clear Hct_12_0
              replace ct_12_1 := Hct_12_1.out
              clear Hct_12_1
              replace ct_12_2 := Hct_12_2.out
              clear Hct_12_2
              replace ct_12_3 := Hct_12_3.out
              clear Hct_12_3
              replace ct_12_4 := Hct_12_4.out
              clear Hct_12_4
              replace ct_23_0 := Hct_23_0.out
              clear Hct_23_0
              replace ct_23_1 := Hct_23_1.out
              clear Hct_23_1
              replace ct_23_2 := Hct_23_2.out
              clear Hct_23_2
              replace ct_23_3 := Hct_23_3.out
              clear Hct_23_3
              replace ct_23_4 := Hct_23_4.out
              clear Hct_23_4
              have HBY4 := Lib.hid (Below.step HBwr0.out hY4)
              replace ct_12_0 := cell_below hY4 ct_12_0
              replace ct_12_1 := cell_below hY4 ct_12_1
              replace ct_12_2 := cell_below hY4 ct_12_2
              replace ct_12_3 := cell_below hY4 ct_12_3
              replace ct_12_4 := cell_below hY4 ct_12_4
              replace ct_23_0 := cell_below hY4 ct_23_0
              replace ct_23_1 := cell_below hY4 ct_23_1
              replace ct_23_2 := cell_below hY4 ct_23_2
              replace ct_23_3 := cell_below hY4 ct_23_3
              replace ct_23_4 := cell_below hY4 ct_23_4
              clear hY4
              cases t_31 with
              | false =>
                replace H := ite_f H
                go_wp2_with fail
                have Hct_12_0 := Lib.hid ct_12_0
                replace ct_12_0 := cell_regrown ct_12_0
                have Hct_12_1 := Lib.hid ct_12_1
                replace ct_12_1 := cell_regrown ct_12_1
                have Hct_12_2 := Lib.hid ct_12_2
                replace ct_12_2 := cell_regrown ct_12_2
                have Hct_12_3 := Lib.hid ct_12_3
                replace ct_12_3 := cell_regrown ct_12_3
                have Hct_12_4 := Lib.hid ct_12_4
                replace ct_12_4 := cell_regrown ct_12_4
                have Hct_23_0 := Lib.hid ct_23_0
                replace ct_23_0 := cell_regrown ct_23_0
                have Hct_23_1 := Lib.hid ct_23_1
                replace ct_23_1 := cell_regrown ct_23_1
                have Hct_23_2 := Lib.hid ct_23_2
                replace ct_23_2 := cell_regrown ct_23_2
                have Hct_23_3 := Lib.hid ct_23_3
                replace ct_23_3 := cell_regrown ct_23_3
                have Hct_23_4 := Lib.hid ct_23_4
                replace ct_23_4 := cell_regrown ct_23_4
                replace H := let_hid H
                obtain ⟨t_36, ht_36, H⟩ := H
                obtain rfl := ht_18.symm.trans ht_36
                replace H := join_hid H
                replace H := ite_t H
                replace H := let_hid H
                obtain ⟨t_40, ht_40, H⟩ := H
                obtain rfl := ht_22.symm.trans ht_40
                replace H := idx_hid H
                obtain ⟨nt_41, yt_41, et_41, lt_41, gt_41, H⟩ := H
                obtain rfl : nt_23 = nt_41 := by omega
                clear et_41
                obtain rfl := Option.some.inj (gt_23.out.symm.trans gt_41.out)
                clear gt_41 lt_41
                replace H := unRate_hid H
                replace H := idx_hid H
                obtain ⟨nt_46, yt_46, et_46, lt_46, gt_46, H⟩ := H
                obtain rfl : nt_12 = nt_46 := by omega
                clear et_46
                obtain rfl := Option.some.inj (gt_12.out.symm.trans gt_46.out)
                clear gt_46 lt_46
                replace H := unRate_hid H
                replace H := let_hid H
                obtain ⟨t_49, ht_49, H⟩ := H
                replace H := app_hid H
                replace H := join_hid H
                cases t_49 with
                | false =>
                  replace H := ite_f H
                  replace H := app_hid H
                  replace H := join_hid H
                  replace H := ite_f H
                  replace H := app_hid H
                  refine wp_region_quiet_below (by kernel_rfl) (by kernel_rfl) ?_
                  repeat (go_big_quiet_step (fail))
                  refine wpQuiet_nil ?_
                  intro Y6 hY6
                  replace hY6 := below_class hY6
                  replace ct_12_0 := Hct_12_0.out
                  clear Hct_12_0
                  replace ct_12_1 := Hct_12_1.out
                  clear Hct_12_1
                  replace ct_12_2 := Hct_12_2.out
                  clear Hct_12_2
                  replace ct_12_3 := Hct_12_3.out
                  clear Hct_12_3
                  replace ct_12_4 := Hct_12_4.out
                  clear Hct_12_4
                  replace ct_23_0 := Hct_23_0.out
                  clear Hct_23_0
                  replace ct_23_1 := Hct_23_1.out
                  clear Hct_23_1
                  replace ct_23_2 := Hct_23_2.out
                  clear Hct_23_2
                  replace ct_23_3 := Hct_23_3.out
                  clear Hct_23_3
                  replace ct_23_4 := Hct_23_4.out
                  clear Hct_23_4
                  have HBY6 := Lib.hid (Below.step HBY4.out hY6)
                  replace ct_12_0 := cell_below hY6 ct_12_0
                  replace ct_12_1 := cell_below hY6 ct_12_1
                  replace ct_12_2 := cell_below hY6 ct_12_2
                  replace ct_12_3 := cell_below hY6 ct_12_3
                  replace ct_12_4 := cell_below hY6 ct_12_4
                  replace ct_23_0 := cell_below hY6 ct_23_0
                  replace ct_23_1 := cell_below hY6 ct_23_1
                  replace ct_23_2 := cell_below hY6 ct_23_2
                  replace ct_23_3 := cell_below hY6 ct_23_3
                  replace ct_23_4 := cell_below hY6 ct_23_4
                  clear hY6
                  replace H := ite_f H
                  replace H := let_hid H
                  obtain ⟨t_81, ht_81, H⟩ := H
                  replace H := app_hid H
                  go_wp2_with fail
                  go_roundg m0
                  case measure => omega
                  case rel => exact ⟨_, rfl, H, HBY6⟩
                | true =>
                  replace H := ite_t H
                  replace H := let_hid H
                  obtain ⟨t_54, ht_54, H⟩ := H
                  obtain rfl := ht_22.symm.trans ht_54
                  replace H := idx_hid H
                  obtain ⟨nt_55, yt_55, et_55, lt_55, gt_55, H⟩ := H
                  obtain rfl : nt_23 = nt_55 := by omega
                  clear et_55
                  obtain rfl := Option.some.inj (gt_23.out.symm.trans gt_55.out)
                  clear gt_55 lt_55
                  replace H := unRate_hid H
                  replace H := idx_hid H
                  obtain ⟨nt_60, yt_60, et_60, lt_60, gt_60, H⟩ := H
                  obtain rfl : nt_12 = nt_60 := by omega
                  clear et_60
                  obtain rfl := Option.some.inj (gt_12.out.symm.trans gt_60.out)
                  clear gt_60 lt_60
                  replace H := unRate_hid H
                  replace H := let_hid H
                  obtain ⟨t_63, ht_63, H⟩ := H
                  replace H := app_hid H
                  replace H := join_hid H
                  cases t_63 with
                  | false =>
                    replace H := ite_f H
                    replace H := app_hid H
                    refine wp_region_quiet_below (by kernel_rfl) (by kernel_rfl) ?_
                    repeat (go_big_quiet_step (fail))
                    refine wpQuiet_nil ?_
                    intro Y6 hY6
                    replace hY6 := below_class hY6
                    replace ct_12_0 := Hct_12_0.out
                    clear Hct_12_0
                    replace ct_12_1 := Hct_12_1.out
                    clear Hct_12_1
                    replace ct_12_2 := Hct_12_2.out
                    clear Hct_12_2
                    replace ct_12_3 := Hct_12_3.out
                    clear Hct_12_3
                    replace ct_12_4 := Hct_12_4.out
                    clear Hct_12_4
                    replace ct_23_0 := Hct_23_0.out
                    clear Hct_23_0
                    replace ct_23_1 := Hct_23_1.out
                    clear Hct_23_1
                    replace ct_23_2 := Hct_23_2.out
                    clear Hct_23_2
                    replace ct_23_3 := Hct_23_3.out
                    clear Hct_23_3
                    replace ct_23_4 := Hct_23_4.out
                    clear Hct_23_4
                    have HBY6 := Lib.hid (Below.step HBY4.out hY6)
                    replace ct_12_0 := cell_below hY6 ct_12_0
                    replace ct_12_1 := cell_below hY6 ct_12_1
                    replace ct_12_2 := cell_below hY6 ct_12_2
                    replace ct_12_3 := cell_below hY6 ct_12_3
                    replace ct_12_4 := cell_below hY6 ct_12_4
                    replace ct_23_0 := cell_below hY6 ct_23_0
                    replace ct_23_1 := cell_below hY6 ct_23_1
                    replace ct_23_2 := cell_below hY6 ct_23_2
                    replace ct_23_3 := cell_below hY6 ct_23_3
                    replace ct_23_4 := cell_below hY6 ct_23_4
                    clear hY6
                    replace H := ite_f H
                    replace H := let_hid H
                    obtain ⟨t_81, ht_81, H⟩ := H
                    replace H := app_hid H
                    go_wp2_with fail
                    go_roundg m0
                    case measure => omega
                    case rel => exact ⟨_, rfl, H, HBY6⟩
                  | true =>
                    replace H := ite_t H
                    replace H := let_hid H
                    obtain ⟨t_68, ht_68, H⟩ := H
                    obtain rfl := ht_22.symm.trans ht_68
                    replace H := idx_hid H
                    obtain ⟨nt_69, yt_69, et_69, lt_69, gt_69, H⟩ := H
                    obtain rfl : nt_23 = nt_69 := by omega
                    clear et_69
                    obtain rfl := Option.some.inj (gt_23.out.symm.trans gt_69.out)
                    clear gt_69 lt_69
                    replace H := unRate_hid H
                    replace H := idx_hid H
                    obtain ⟨nt_74, yt_74, et_74, lt_74, gt_74, H⟩ := H
                    obtain rfl : nt_12 = nt_74 := by omega
                    clear et_74
                    obtain rfl := Option.some.inj (gt_12.out.symm.trans gt_74.out)
                    clear gt_74 lt_74
                    replace H := unRate_hid H
                    replace H := let_hid H
                    obtain ⟨t_77, ht_77, H⟩ := H
                    replace H := app_hid H
                    refine wp_region_quiet_below (by kernel_rfl) (by kernel_rfl) ?_
                    repeat (go_big_quiet_step (fail))
                    refine wpQuiet_nil ?_
                    intro Y6 hY6
                    replace hY6 := below_class hY6
                    replace ct_12_0 := Hct_12_0.out
                    clear Hct_12_0
                    replace ct_12_1 := Hct_12_1.out
                    clear Hct_12_1
                    replace ct_12_2 := Hct_12_2.out
                    clear Hct_12_2
                    replace ct_12_3 := Hct_12_3.out
                    clear Hct_12_3
                    replace ct_12_4 := Hct_12_4.out
                    clear Hct_12_4
                    replace ct_23_0 := Hct_23_0.out
                    clear Hct_23_0
                    replace ct_23_1 := Hct_23_1.out
                    clear Hct_23_1
                    replace ct_23_2 := Hct_23_2.out
                    clear Hct_23_2
                    replace ct_23_3 := Hct_23_3.out
                    clear Hct_23_3
                    replace ct_23_4 := Hct_23_4.out
                    clear Hct_23_4
                    have HBY6 := Lib.hid (Below.step HBY4.out hY6)
                    replace ct_12_0 := cell_below hY6 ct_12_0
                    replace ct_12_1 := cell_below hY6 ct_12_1
                    replace ct_12_2 := cell_below hY6 ct_12_2
                    replace ct_12_3 := cell_below hY6 ct_12_3
                    replace ct_12_4 := cell_below hY6 ct_12_4
                    replace ct_23_0 := cell_below hY6 ct_23_0
                    replace ct_23_1 := cell_below hY6 ct_23_1
                    replace ct_23_2 := cell_below hY6 ct_23_2
                    replace ct_23_3 := cell_below hY6 ct_23_3
                    replace ct_23_4 := cell_below hY6 ct_23_4
                    clear hY6
                    cases t_77 with
                    | false =>
                      replace H := ite_f H
                      replace H := let_hid H
                      obtain ⟨t_81, ht_81, H⟩ := H
                      replace H := app_hid H
                      go_wp2_with fail
                      go_roundg m0
                      case measure => omega
                      case rel => exact ⟨_, rfl, H, HBY6⟩
                    | true =>
                      replace H := ite_t H
                      obtain rfl := ret_hid H
                      go_wp2_with fail
                      go_ret
                      exact ⟨rfl, HBY6.out⟩
              | true =>
                replace H := ite_t H
                obtain rfl := ret_hid H
                go_wp2_with fail
                go_ret
                exact ⟨rfl, HBY4.out⟩
end Go.Proofs.Ytlljmgphgmklcaa.GsL8Good

/- loop.example/g01062/spec.l9Good as a plain function, and the contract of the program's: where the plain one has an answer, the program has it. Conditions: slices read as lists. -/
namespace Go.Proofs.Ytlljmgphgmklcaa.GsL9Good
set_option linter.unusedVariables false
set_option linter.unusedSimpArgs false
open Go.RowKit
open Go.Proofs.Ytlljmgphgmklcaa.Rowed Go.Proofs.Ytlljmgphgmklcaa.Turn Go.Proofs.Ytlljmgphgmklcaa.Aid Go.Proofs.Ytlljmgphgmklcaa.GoP Go.Proofs.Ytlljmgphgmklcaa.GoM

def l0 (list : (List Go.Proofs.Ytlljmgphgmklcaa.PMail.Mail)) (k0 : Nat) (s : Unit) (nx0 bk0 : Unit → Option (Bool)) : Option (Bool) :=
  
  Option.bind (idx list (k0 : Int)) fun (yt_8 : Go.Proofs.Ytlljmgphgmklcaa.PMail.Mail) =>
  unMail yt_8 fun (t_8_leave : Int) (t_8_from_ : Int) (t_8_to_ : Int) (t_8_arrive : Int) =>
  Option.bind (Go.Proofs.Ytlljmgphgmklcaa.GsL9One.P (Go.Proofs.Ytlljmgphgmklcaa.PMail.Mail.mk t_8_leave t_8_from_ t_8_to_ t_8_arrive)) fun (t_10 : Bool) =>
  letK (!t_10) fun (t_11 : Bool) =>
  joinK (fun (t_29 : Bool) =>
  iteK t_29
  (some false)
  (appK nx0 ())) fun jt_29 => iteK t_11 (appK jt_29 true) (letK (decide (0 < (k0 : Int))) fun (t_14 : Bool) =>
  joinK (fun (t_28 : Bool) =>
  appK jt_29 t_28) fun jt_28 => iteK t_14 (letK (IntKind.i64.wrap ((k0 : Int) - 1)) fun (t_18 : Int) =>
  Option.bind (idx list t_18) fun (yt_19 : Go.Proofs.Ytlljmgphgmklcaa.PMail.Mail) =>
  unMail yt_19 fun (t_19_leave : Int) (t_19_from_ : Int) (t_19_to_ : Int) (t_19_arrive : Int) =>
  Option.bind (Go.Proofs.Ytlljmgphgmklcaa.GsL9Code.P (Go.Proofs.Ytlljmgphgmklcaa.PMail.Mail.mk t_19_leave t_19_from_ t_19_to_ t_19_arrive)) fun (t_21 : Int) =>
  Option.bind (idx list (k0 : Int)) fun (yt_24 : Go.Proofs.Ytlljmgphgmklcaa.PMail.Mail) =>
  unMail yt_24 fun (t_24_leave : Int) (t_24_from_ : Int) (t_24_to_ : Int) (t_24_arrive : Int) =>
  Option.bind (Go.Proofs.Ytlljmgphgmklcaa.GsL9Code.P (Go.Proofs.Ytlljmgphgmklcaa.PMail.Mail.mk t_24_leave t_24_from_ t_24_to_ t_24_arrive)) fun (t_26 : Int) =>
  letK (decide (t_26 ≤ t_21)) fun (t_27 : Bool) =>
  appK jt_28 t_27) (appK jt_28 false))

def e0 (list : (List Go.Proofs.Ytlljmgphgmklcaa.PMail.Mail)) (s : Unit) : Option (Bool) :=
  
  letK (decide ((list.length : Int) ≤ 20)) fun (t_36 : Bool) =>
  some t_36

def P (list : (List Go.Proofs.Ytlljmgphgmklcaa.PMail.Mail)) : Option (Bool) :=
  cntK (l0 list) (list.length) 0 () (e0 list)

set_option maxRecDepth 100000 in
set_option maxHeartbeats 2000000 in
theorem C (list : (List Go.Proofs.Ytlljmgphgmklcaa.PMail.Mail)) (A0 : Option Addr) (c0 : Nat)  (w : World) (M0 : Hid (Cells w 4 A0 list.length (Go.Proofs.Ytlljmgphgmklcaa.PMail.flat list))) (N0 : Hid (list.length ≤ 9223372036854775807))  {r : Bool} (H : Hid (P list = some r)) :
    Calls Try.prog 90 #[.slice A0 list.length c0] w (Gives (.bool r) w) := by
  have HB := Lib.hid (Below.refl w.heap.size w)
  unfold P at H
  have N0o := N0.out
  go_enter Try.func90, Try.ntmps90
  go_wp2_with fail
  go_loopg [3] (list.length) (fun m_ v3_ wr => ∃ (k0 : Nat) , k0 + m_ = list.length ∧ v3_ = .int .i64 (k0 : Int) ∧ Hid (cntK (l0 list) m_ k0 () (e0 list) = some r) ∧ Hid (Below w.heap.size w wr))
  case atStart => exact ⟨0, by omega, rfl, H, HB⟩
  case round =>
    obtain ⟨k0, hkm0, rfl, H, HBwr0⟩ := hrel
    rename World => wr0
    cases gk with
    | zero =>
      obtain rfl : k0 = list.length := by omega
      have hc0 : decide (((list.length : Nat) : Int) < ((list.length : Nat) : Int)) = false := by simp
      replace H := cnt_zero H
      unfold e0 at H
      replace H := let_hid H
      obtain ⟨t_36, ht_36, H⟩ := H
      obtain rfl := ret_hid H
      go_wp2_with fail
      go_ret
      exact ⟨rfl, HBwr0.out⟩
    | succ m0 =>
      have hlt0 : k0 < list.length := by omega
      have hc0 : decide ((k0 : Int) < ((list.length : Nat) : Int)) = true := by simp; omega
      replace H := cnt_succ H
      unfold l0 at H
      go_wp2_with fail
      replace H := idx_hid H
      obtain ⟨nt_8, yt_8, et_8, lt_8, gt_8, H⟩ := H
      obtain rfl : k0 = nt_8 := by omega
      clear et_8
      obtain ⟨t_8_leave, t_8_from_, t_8_to_, t_8_arrive⟩ := yt_8
      replace H := unMail_hid H
      obtain ⟨ab_t_8, ao_t_8, zt_8, At_8, z_t_8, ct_8_0, ct_8_1, ct_8_2, ct_8_3⟩ := Go.Proofs.Ytlljmgphgmklcaa.OMail.at_ M0.out lt_8
      obtain rfl := Option.some.inj (gt_8.out.symm.trans z_t_8)
      subst At_8
      have ltt_8 := cell_lt ct_8_0
      replace ct_8_0 := cell_below HBwr0.out ct_8_0
      replace ct_8_1 := cell_below HBwr0.out ct_8_1
      replace ct_8_2 := cell_below HBwr0.out ct_8_2
      replace ct_8_3 := cell_below HBwr0.out ct_8_3
      clear z_t_8
      have b0t_8 : (0 : Int) ≤ (k0 : Int) := by omega
      have b1t_8 : (k0 : Int) < ((list.length : Nat) : Int) := by omega
      have b2t_8 : ((k0 : Int)).toNat = k0 := by omega
      have Hct_8_0 := Lib.hid ct_8_0
      replace ct_8_0 := cell_regrown ct_8_0
      have Hct_8_1 := Lib.hid ct_8_1
      replace ct_8_1 := cell_regrown ct_8_1
      have Hct_8_2 := Lib.hid ct_8_2
      replace ct_8_2 := cell_regrown ct_8_2
      have Hct_8_3 := Lib.hid ct_8_3
      replace ct_8_3 := cell_regrown ct_8_3
      replace H := bind_hid H
      obtain ⟨t_10, qt_10, H⟩ := H
      have nt_10 : ∀ d os, Calls Try.prog 143 #[.agg #[.int .i64 t_8_leave, .int .i64 t_8_from_, .int .i64 t_8_to_, .int .i64 t_8_arrive]] (Go.Sort.grow (redrawn wr0 d) os) fun e w'' => e = .returned (.bool t_10) ∧ ∃ p : Regrown, w'' = Go.Sort.grow (redrawn wr0 p.d) p.os := fun d os => Calls.regrown_of (Go.Proofs.Ytlljmgphgmklcaa.GsL9One.C ((Go.Proofs.Ytlljmgphgmklcaa.PMail.Mail.mk t_8_leave t_8_from_ t_8_to_ t_8_arrive))  _    qt_10)
      cases t_10 with
      | false =>
        replace H := let_hid H
        obtain ⟨t_11, ht_11, H⟩ := H
        obtain rfl : t_11 = true := ht_11.symm
        replace H := join_hid H
        replace H := ite_t H
        replace H := app_hid H
        refine wp_region_quiet_below (by kernel_rfl) (by kernel_rfl) ?_
        repeat (go_big_quiet_step (first | (go_at_call 143; exact nt_10 _ _)))
        refine wpQuiet_nil ?_
        intro Y4 hY4
        replace hY4 := below_class hY4
        clear nt_10
        replace ct_8_0 := Hct_8_0.out
        clear Hct_8_0
        replace ct_8_1 := Hct_8_1.out
        clear Hct_8_1
        replace ct_8_2 := Hct_8_2.out
        clear Hct_8_2
        replace ct_8_3 := Hct_8_3.out
        clear Hct_8_3
        have HBY4 := Lib.hid (Below.step HBwr0.out hY4)
        replace ct_8_0 := cell_below hY4 ct_8_0
        replace ct_8_1 := cell_below hY4 ct_8_1
        replace ct_8_2 := cell_below hY4 ct_8_2
        replace ct_8_3 := cell_below hY4 ct_8_3
        clear hY4
        replace H := ite_t H
        obtain rfl := ret_hid H
        go_wp2_with fail
        go_ret
        exact ⟨rfl, HBY4.out⟩
      | true =>
        replace H := let_hid H
        obtain ⟨t_11, ht_11, H⟩ := H
        obtain rfl : t_11 = false := ht_11.symm
        replace H := join_hid H
        replace H := ite_f H
        replace H := let_hid H
        obtain ⟨t_14, ht_14, H⟩ := H
        replace H := join_hid H
        cases t_14 with
        | false =>
          have nht_14 : ¬ (0 < k0) := by have := of_decide_eq_false ht_14; omega
          replace H := ite_f H
          replace H := app_hid H
          replace H := app_hid H
          refine wp_region_quiet_below (by kernel_rfl) (by kernel_rfl) ?_
          repeat (go_big_quiet_step (first | (go_at_call 143; exact nt_10 _ _)))
          refine wpQuiet_nil ?_
          intro Y4 hY4
          replace hY4 := below_class hY4
          clear nt_10
          replace ct_8_0 := Hct_8_0.out
          clear Hct_8_0
          replace ct_8_1 := Hct_8_1.out
          clear Hct_8_1
          replace ct_8_2 := Hct_8_2.out
          clear Hct_8_2
          replace ct_8_3 := Hct_8_3.out
          clear Hct_8_3
          have HBY4 := Lib.hid (Below.step HBwr0.out hY4)
          replace ct_8_0 := cell_below hY4 ct_8_0
          replace ct_8_1 := cell_below hY4 ct_8_1
          replace ct_8_2 := cell_below hY4 ct_8_2
          replace ct_8_3 := cell_below hY4 ct_8_3
          clear hY4
          replace H := ite_f H
          replace H := app_hid H
          go_wp2_with fail
          go_roundg m0
          case measure => omega
          case rel => exact ⟨k0 + 1, by omega, by go_num, H, HBY4⟩
        | true =>
          have nht_14 : 0 < k0 := by have := of_decide_eq_true ht_14; omega
          replace H := ite_t H
          replace H := let_hid H
          obtain ⟨t_18, ht_18, H⟩ := H
          replace H := idx_hid H
          obtain ⟨nt_19, yt_19, et_19, lt_19, gt_19, H⟩ := H
          subst et_19
          obtain ⟨t_19_leave, t_19_from_, t_19_to_, t_19_arrive⟩ := yt_19
          replace H := unMail_hid H
          obtain ⟨ab_t_19, ao_t_19, zt_19, At_19, z_t_19, ct_19_0, ct_19_1, ct_19_2, ct_19_3⟩ := Go.Proofs.Ytlljmgphgmklcaa.OMail.at_ M0.out lt_19
          obtain rfl := Option.some.inj (gt_19.out.symm.trans z_t_19)
          simp only [Option.some.injEq, Addr.mk.injEq] at At_19
          obtain ⟨rfl, rfl, _⟩ := At_19
          have ltt_19 := cell_lt ct_19_0
          replace ct_19_0 := cell_below HBwr0.out ct_19_0
          replace ct_19_1 := cell_below HBwr0.out ct_19_1
          replace ct_19_2 := cell_below HBwr0.out ct_19_2
          replace ct_19_3 := cell_below HBwr0.out ct_19_3
          clear z_t_19
          have b0t_19 : (0 : Int) ≤ (nt_19 : Int) := by omega
          have b1t_19 : (nt_19 : Int) < ((list.length : Nat) : Int) := by omega
          have b2t_19 : ((nt_19 : Int)).toNat = nt_19 := by omega
          have Hct_19_0 := Lib.hid ct_19_0
          replace ct_19_0 := cell_regrown ct_19_0
          have Hct_19_1 := Lib.hid ct_19_1
          replace ct_19_1 := cell_regrown ct_19_1
          have Hct_19_2 := Lib.hid ct_19_2
          replace ct_19_2 := cell_regrown ct_19_2
          have Hct_19_3 := Lib.hid ct_19_3
          replace ct_19_3 := cell_regrown ct_19_3
          replace H := bind_hid H
          obtain ⟨t_21, qt_21, H⟩ := H
          have nt_21 : ∀ d os, Calls Try.prog 144 #[.agg #[.int .i64 t_19_leave, .int .i64 t_19_from_, .int .i64 t_19_to_, .int .i64 t_19_arrive]] (Go.Sort.grow (redrawn wr0 d) os) fun e w'' => e = .returned (.int .i64 t_21) ∧ ∃ p : Regrown, w'' = Go.Sort.grow (redrawn wr0 p.d) p.os := fun d os => Calls.regrown_of (Go.Proofs.Ytlljmgphgmklcaa.GsL9Code.C ((Go.Proofs.Ytlljmgphgmklcaa.PMail.Mail.mk t_19_leave t_19_from_ t_19_to_ t_19_arrive))  _    qt_21)
          replace H := idx_hid H
          obtain ⟨nt_24, yt_24, et_24, lt_24, gt_24, H⟩ := H
          obtain rfl : k0 = nt_24 := by omega
          clear et_24
          obtain rfl := Option.some.inj (gt_8.out.symm.trans gt_24.out)
          clear gt_24 lt_24
          replace H := unMail_hid H
          replace H := bind_hid H
          obtain ⟨t_26, qt_26, H⟩ := H
          have nt_26 : ∀ d os, Calls Try.prog 144 #[.agg #[.int .i64 t_8_leave, .int .i64 t_8_from_, .int .i64 t_8_to_, .int .i64 t_8_arrive]] (Go.Sort.grow (redrawn wr0 d) os) fun e w'' => e = .returned (.int .i64 t_26) ∧ ∃ p : Regrown, w'' = Go.Sort.grow (redrawn wr0 p.d) p.os := fun d os => Calls.regrown_of (Go.Proofs.Ytlljmgphgmklcaa.GsL9Code.C ((Go.Proofs.Ytlljmgphgmklcaa.PMail.Mail.mk t_8_leave t_8_from_ t_8_to_ t_8_arrive))  _    qt_26)
          replace H := let_hid H
          obtain ⟨t_27, ht_27, H⟩ := H
          replace H := app_hid H
          replace H := app_hid H
          refine wp_region_quiet_below (by kernel_rfl) (by kernel_rfl) ?_
          repeat (go_big_quiet_step (first | (go_at_call 144; with_reducible exact nt_21 _ _) | (go_at_call 144; with_reducible exact nt_26 _ _) | (go_at_call 143; exact nt_10 _ _) | (go_at_call 144; exact nt_21 _ _) | (go_at_call 144; exact nt_26 _ _)))
          refine wpQuiet_nil ?_
          intro Y4 hY4
          replace hY4 := below_class hY4
          clear nt_10 nt_21 nt_26
          replace ct_8_0 := Hct_8_0.out
          clear Hct_8_0
          replace ct_8_1 := Hct_8_1.out
          clear Hct_8_1
          replace ct_8_2 := Hct_8_2.out
          clear Hct_8_2
          replace ct_8_3 := Hct_8_3.out
          clear Hct_8_3
          replace ct_19_0 := Hct_19_0.out
          clear Hct_19_0
          replace ct_19_1 := Hct_19_1.out
          clear Hct_19_1
          replace ct_19_2 := Hct_19_2.out
          clear Hct_19_2
          replace ct_19_3 := Hct_19_3.out
          clear Hct_19_3
          have HBY4 := Lib.hid (Below.step HBwr0.out hY4)
          replace ct_8_0 := cell_below hY4 ct_8_0
          replace ct_8_1 := cell_below hY4 ct_8_1
          replace ct_8_2 := cell_below hY4 ct_8_2
          replace ct_8_3 := cell_below hY4 ct_8_3
          replace ct_19_0 := cell_below hY4 ct_19_0
          replace ct_19_1 := cell_below hY4 ct_19_1
          replace ct_19_2 := cell_below hY4 ct_19_2
          replace ct_19_3 := cell_below hY4 ct_19_3
          clear hY4
          cases t_27 with
          | false =>
            replace H := ite_f H
            replace H := app_hid H
            go_wp2_with fail
            go_roundg m0
            case measure => omega
            case rel => exact ⟨k0 + 1, by omega, by go_num, H, HBY4⟩
          | true =>
            replace H := ite_t H
            obtain rfl := ret_hid H
            go_wp2_with fail
            go_ret
            exact ⟨rfl, HBY4.out⟩
end Go.Proofs.Ytlljmgphgmklcaa.GsL9Good

/- What is held of the worlds of a region that draws its order may grow on the way. No condition. -/
namespace Go.Proofs.Ytlljmgphgmklcaa.GoR
set_option linter.unusedVariables false
theorem wpAnyH_more {P : Program} {ops : Array Oper} {Q : Exit → Act → World → Prop} {md : Region.Mode} {S S' : World → Prop} (h : ∀ w, S' w → S w) : ∀ (fuel : Nat) (listed : Array Bool) (a : Act) (w : World), wpAnyH P md ops Q S' fuel listed a w → wpAnyH P md ops Q S fuel listed a w
  | 0, _, _, _, H => H
  | fuel + 1, _, _, _, H => ⟨H.1, fun i hi => wpOp_mono (fun a' w' h' => ⟨h _ h'.1, wpAnyH_more h fuel _ a' w' h'.2⟩) (H.2 i hi)⟩
end Go.Proofs.Ytlljmgphgmklcaa.GoR

/- loop.example/g01062/spec.l8For as a plain function, and the contract of the program's: where the plain one has an answer, the program has it. Conditions: slices read as lists. -/
namespace Go.Proofs.Ytlljmgphgmklcaa.GsL8For
set_option linter.unusedVariables false
set_option linter.unusedSimpArgs false
open Go.RowKit
open Go.Proofs.Ytlljmgphgmklcaa.Rowed Go.Proofs.Ytlljmgphgmklcaa.Turn Go.Proofs.Ytlljmgphgmklcaa.Aid Go.Proofs.Ytlljmgphgmklcaa.GoP Go.Proofs.Ytlljmgphgmklcaa.GoM

def l0 (list : (List Go.Proofs.Ytlljmgphgmklcaa.PRate.Rate)) (day : Int) (zone : Int) (grams : Int) (k0 : Nat) (s : Unit) (nx0 bk0 : Unit → Option (Int)) : Option (Int) :=
  
  Option.bind (idx list (k0 : Int)) fun (yt_8 : Go.Proofs.Ytlljmgphgmklcaa.PRate.Rate) =>
  unRate yt_8 fun (t_8_zone : Int) (t_8_grams : Int) (t_8_from_ : Int) (t_8_until_ : Int) (t_8_cents : Int) =>
  letK (t_8_zone == zone) fun (t_15 : Bool) =>
  joinK (fun (t_21 : Bool) =>
  joinK (fun (t_29 : Bool) =>
  iteK t_29
  (some t_8_cents)
  (appK nx0 ())) fun jt_29 => iteK t_21 (Option.bind (Go.Proofs.Ytlljmgphgmklcaa.GsL1In.P day t_8_from_ t_8_until_) fun (t_28 : Bool) =>
  appK jt_29 t_28) (appK jt_29 false)) fun jt_21 => iteK t_15 (letK (decide (grams ≤ t_8_grams)) fun (t_20 : Bool) =>
  appK jt_21 t_20) (appK jt_21 false)

def e0  (s : Unit) : Option (Int) :=
  
  some 0

def P (list : (List Go.Proofs.Ytlljmgphgmklcaa.PRate.Rate)) (day : Int) (zone : Int) (grams : Int) : Option (Int) :=
  cntK (l0 list day zone grams) (list.length) 0 () (e0 )

set_option maxRecDepth 100000 in
set_option maxHeartbeats 2000000 in
theorem C (list : (List Go.Proofs.Ytlljmgphgmklcaa.PRate.Rate)) (day : Int) (zone : Int) (grams : Int) (A0 : Option Addr) (c0 : Nat)  (w : World) (M0 : Hid (Cells w 5 A0 list.length (Go.Proofs.Ytlljmgphgmklcaa.PRate.flat list))) (N0 : Hid (list.length ≤ 9223372036854775807))  {r : Int} (H : Hid (P list day zone grams = some r)) :
    Calls Try.prog 100 #[.slice A0 list.length c0, .int .i64 day, .int .i64 zone, .int .i64 grams] w (Gives (.int .i64 r) w) := by
  have HB := Lib.hid (Below.refl w.heap.size w)
  unfold P at H
  have N0o := N0.out
  go_enter Try.func100, Try.ntmps100
  go_wp2_with fail
  go_loopg [9] (list.length) (fun m_ v9_ wr => ∃ (k0 : Nat) , k0 + m_ = list.length ∧ v9_ = .int .i64 (k0 : Int) ∧ Hid (cntK (l0 list day zone grams) m_ k0 () (e0 ) = some r) ∧ Hid (Below w.heap.size w wr))
  case atStart => exact ⟨0, by omega, rfl, H, HB⟩
  case round =>
    obtain ⟨k0, hkm0, rfl, H, HBwr0⟩ := hrel
    rename World => wr0
    cases gk with
    | zero =>
      obtain rfl : k0 = list.length := by omega
      have hc0 : decide (((list.length : Nat) : Int) < ((list.length : Nat) : Int)) = false := by simp
      replace H := cnt_zero H
      unfold e0 at H
      obtain rfl := ret_hid H
      go_wp2_with fail
      go_ret
      exact ⟨rfl, HBwr0.out⟩
    | succ m0 =>
      have hlt0 : k0 < list.length := by omega
      have hc0 : decide ((k0 : Int) < ((list.length : Nat) : Int)) = true := by simp; omega
      replace H := cnt_succ H
      unfold l0 at H
      replace H := idx_hid H
      obtain ⟨nt_8, yt_8, et_8, lt_8, gt_8, H⟩ := H
      obtain rfl : k0 = nt_8 := by omega
      clear et_8
      obtain ⟨t_8_zone, t_8_grams, t_8_from_, t_8_until_, t_8_cents⟩ := yt_8
      replace H := unRate_hid H
      obtain ⟨ab_t_8, ao_t_8, zt_8, At_8, z_t_8, ct_8_0, ct_8_1, ct_8_2, ct_8_3, ct_8_4⟩ := Go.Proofs.Ytlljmgphgmklcaa.ORate.at_ M0.out lt_8
      obtain rfl := Option.some.inj (gt_8.out.symm.trans z_t_8)
      subst At_8
      have ltt_8 := cell_lt ct_8_0
      replace ct_8_0 := cell_below HBwr0.out ct_8_0
      replace ct_8_1 := cell_below HBwr0.out ct_8_1
      replace ct_8_2 := cell_below HBwr0.out ct_8_2
      replace ct_8_3 := cell_below HBwr0.out ct_8_3
      replace ct_8_4 := cell_below HBwr0.out ct_8_4
      clear z_t_8
      have b0t_8 : (0 : Int) ≤ (k0 : Int) := by omega
      have b1t_8 : (k0 : Int) < ((list.length : Nat) : Int) := by omega
      have b2t_8 : ((k0 : Int)).toNat = k0 := by omega
      obtain ⟨w_r_10, hw_r_10⟩ : ∃ x, wr0.alloc (.cells #[.int .i64 t_8_zone, .int .i64 t_8_grams, .int .i64 t_8_from_, .int .i64 t_8_until_, .int .i64 t_8_cents] 104) = x := ⟨_, rfl⟩
      have bw_r_10 : Below wr0.heap.size wr0 w_r_10 := by rw [← hw_r_10]; exact (Below.refl _ _).alloc (Nat.le_refl _) _
      have HBw_r_10 := Lib.hid (Below.step HBwr0.out bw_r_10)
      have ct_8_0__495 := cell_below bw_r_10 ct_8_0
      have ct_8_1__496 := cell_below bw_r_10 ct_8_1
      have ct_8_2__497 := cell_below bw_r_10 ct_8_2
      have ct_8_3__498 := cell_below bw_r_10 ct_8_3
      have ct_8_4__499 := cell_below bw_r_10 ct_8_4
      clear bw_r_10
      have kr_10_0 : w_r_10.cell? ⟨wr0.heap.size, 0, none⟩ = some (.int .i64 t_8_zone) := by rw [← hw_r_10]; exact box_new _ _ _ 0 _ rfl
      have kr_10_1 : w_r_10.cell? ⟨wr0.heap.size, 1, none⟩ = some (.int .i64 t_8_grams) := by rw [← hw_r_10]; exact box_new _ _ _ 1 _ rfl
      have kr_10_2 : w_r_10.cell? ⟨wr0.heap.size, 2, none⟩ = some (.int .i64 t_8_from_) := by rw [← hw_r_10]; exact box_new _ _ _ 2 _ rfl
      have kr_10_3 : w_r_10.cell? ⟨wr0.heap.size, 3, none⟩ = some (.int .i64 t_8_until_) := by rw [← hw_r_10]; exact box_new _ _ _ 3 _ rfl
      have kr_10_4 : w_r_10.cell? ⟨wr0.heap.size, 4, none⟩ = some (.int .i64 t_8_cents) := by rw [← hw_r_10]; exact box_new _ _ _ 4 _ rfl
      replace H := let_hid H
      obtain ⟨t_15, ht_15, H⟩ := H
      replace H := join_hid H
      cases t_15 with
      | false =>
        replace H := ite_f H
        replace H := app_hid H
        replace H := join_hid H
        replace H := ite_f H
        replace H := app_hid H
        replace H := ite_f H
        replace H := app_hid H
        go_wp2_with fail
        clear ct_8_0 ct_8_1 ct_8_2 ct_8_3 ct_8_4
        go_roundg m0
        case measure => omega
        case rel => exact ⟨k0 + 1, by omega, by go_num, H, HBw_r_10⟩
      | true =>
        replace H := ite_t H
        replace H := let_hid H
        obtain ⟨t_20, ht_20, H⟩ := H
        replace H := app_hid H
        replace H := join_hid H
        cases t_20 with
        | false =>
          replace H := ite_f H
          replace H := app_hid H
          replace H := ite_f H
          replace H := app_hid H
          go_wp2_with fail
          clear ct_8_0 ct_8_1 ct_8_2 ct_8_3 ct_8_4
          go_roundg m0
          case measure => omega
          case rel => exact ⟨k0 + 1, by omega, by go_num, H, HBw_r_10⟩
        | true =>
          replace H := ite_t H
          replace H := bind_hid H
          obtain ⟨t_28, qt_28, H⟩ := H
          go_wp2_with fail
          clear ct_8_0 ct_8_1 ct_8_2 ct_8_3 ct_8_4
          go_at_call 113
          refine (Go.Proofs.Ytlljmgphgmklcaa.GsL1In.C (day) (t_8_from_) (t_8_until_)  _    qt_28).mono ?_
          rintro e_t_28 wt_28 ⟨rfl, bt_28⟩
          have HBwt_28 := Lib.hid (Below.step HBw_r_10.out bt_28)
          replace ct_8_0__495 := cell_below bt_28 ct_8_0__495
          replace ct_8_1__496 := cell_below bt_28 ct_8_1__496
          replace ct_8_2__497 := cell_below bt_28 ct_8_2__497
          replace ct_8_3__498 := cell_below bt_28 ct_8_3__498
          replace ct_8_4__499 := cell_below bt_28 ct_8_4__499
          replace kr_10_0 := cell_below bt_28 kr_10_0
          replace kr_10_1 := cell_below bt_28 kr_10_1
          replace kr_10_2 := cell_below bt_28 kr_10_2
          replace kr_10_3 := cell_below bt_28 kr_10_3
          replace kr_10_4 := cell_below bt_28 kr_10_4
          clear bt_28
          replace H := app_hid H
          cases t_28 with
          | false =>
            replace H := ite_f H
            replace H := app_hid H
            go_wp2_with fail
            go_roundg m0
            case measure => omega
            case rel => exact ⟨k0 + 1, by omega, by go_num, H, HBwt_28⟩
          | true =>
            replace H := ite_t H
            obtain rfl := ret_hid H
            go_wp2_with fail
            go_ret
            exact ⟨rfl, HBwt_28.out⟩
end Go.Proofs.Ytlljmgphgmklcaa.GsL8For

/- loop.example/g01062/spec.l1Least as a plain function, and the contract of the program's: where the plain one has an answer, the program has it. Conditions: slices read as lists. -/
namespace Go.Proofs.Ytlljmgphgmklcaa.GsL1Least
set_option linter.unusedVariables false
set_option linter.unusedSimpArgs false
open Go.RowKit
open Go.Proofs.Ytlljmgphgmklcaa.Rowed Go.Proofs.Ytlljmgphgmklcaa.Turn Go.Proofs.Ytlljmgphgmklcaa.Aid Go.Proofs.Ytlljmgphgmklcaa.GoP Go.Proofs.Ytlljmgphgmklcaa.GoM

def P (a : Int) (b : Int) : Option (Int) :=
  letK (decide (a < b)) fun (t_3 : Bool) =>
  iteK t_3
  (some a)
  (some b)

set_option maxRecDepth 100000 in
set_option maxHeartbeats 2000000 in
theorem C (a : Int) (b : Int)   (w : World)   {r : Int} (H : Hid (P a b = some r)) :
    Calls Try.prog 162 #[.int .i64 a, .int .i64 b] w (Gives (.int .i64 r) w) := by
  have HB := Lib.hid (Below.refl w.heap.size w)
  unfold P at H
  go_enter Try.func162, Try.ntmps162
  replace H := let_hid H
  obtain ⟨t_3, ht_3, H⟩ := H
  cases t_3 with
  | false =>
    replace H := ite_f H
    obtain rfl := ret_hid H
    go_wp2_with fail
    go_ret
    exact ⟨rfl, HB.out⟩
  | true =>
    replace H := ite_t H
    obtain rfl := ret_hid H
    go_wp2_with fail
    go_ret
    exact ⟨rfl, HB.out⟩

set_option maxRecDepth 100000 in
set_option maxHeartbeats 2000000 in
theorem C0 (a : Int) (b : Int)   (w : World)   {r : Int} (H : Hid (P a b = some r)) :
    Calls Try.prog 162 #[.int .i64 a, .int .i64 b] w (fun e w'' => e = .returned (.int .i64 r) ∧ w'' = w) := by
  have HB := Lib.hid (Below.refl w.heap.size w)
  unfold P at H
  go_enter Try.func162, Try.ntmps162
  replace H := let_hid H
  obtain ⟨t_3, ht_3, H⟩ := H
  cases t_3 with
  | false =>
    replace H := ite_f H
    obtain rfl := ret_hid H
    go_wp2_with fail
    go_ret
    exact ⟨rfl, rfl⟩
  | true =>
    replace H := ite_t H
    obtain rfl := ret_hid H
    go_wp2_with fail
    go_ret
    exact ⟨rfl, rfl⟩
end Go.Proofs.Ytlljmgphgmklcaa.GsL1Least

/- loop.example/g01062/spec.l9Times as a plain function, and the contract of the program's: where the plain one has an answer, the program has it. Conditions: slices read as lists. -/
namespace Go.Proofs.Ytlljmgphgmklcaa.GsL9Times
set_option linter.unusedVariables false
set_option linter.unusedSimpArgs false
open Go.RowKit
open Go.Proofs.Ytlljmgphgmklcaa.Rowed Go.Proofs.Ytlljmgphgmklcaa.Turn Go.Proofs.Ytlljmgphgmklcaa.Aid Go.Proofs.Ytlljmgphgmklcaa.GoP Go.Proofs.Ytlljmgphgmklcaa.GoM

def l0  (k0 : Nat) (s : (List Int)) (nx0 bk0 : (List Int) → Option ((List Int))) : Option ((List Int)) :=
  letK s fun out_7l0 =>
  Option.bind (idx out_7l0 (k0 : Int)) fun (yt_10 : Int) =>
  letK (out_7l0.set k0 10000) fun (l11_11 : (List Int)) =>
  appK nx0 (l11_11)

def l1 (list : (List Go.Proofs.Ytlljmgphgmklcaa.PMail.Mail)) (k1 : Nat) (s : (List Int)) (nx1 bk1 : (List Int) → Option ((List Int))) : Option ((List Int)) :=
  letK s fun out_7l1 =>
  Option.bind (idx list (k1 : Int)) fun (yt_27 : Go.Proofs.Ytlljmgphgmklcaa.PMail.Mail) =>
  unMail yt_27 fun (t_27_leave : Int) (t_27_from_ : Int) (t_27_to_ : Int) (t_27_arrive : Int) =>
  Option.bind (idx out_7l1 t_27_from_) fun (yt_34 : Int) =>
  letK (decide (yt_34 ≤ t_27_leave)) fun (t_38 : Bool) =>
  iteK t_38
  (Option.bind (idx out_7l1 t_27_to_) fun (yt_45 : Int) =>
  Option.bind (Go.Proofs.Ytlljmgphgmklcaa.GsL1Least.P yt_45 t_27_arrive) fun (t_49 : Int) =>
  Option.bind (idx out_7l1 t_27_to_) fun (yt_50 : Int) =>
  letK (out_7l1.set (t_27_to_).toNat t_49) fun (l51_51 : (List Int)) =>
  appK nx1 (l51_51))
  (appK nx1 (out_7l1))

def e1  (s : (List Int)) : Option ((List Int)) :=
  letK s fun out_7l1 =>
  some out_7l1

def e0 (list : (List Go.Proofs.Ytlljmgphgmklcaa.PMail.Mail)) (from_1 : Int) (minute : Int) (s : (List Int)) : Option ((List Int)) :=
  letK s fun out_7l0 =>
  Option.bind (idx out_7l0 from_1) fun (yt_18 : Int) =>
  letK (out_7l0.set (from_1).toNat minute) fun (l19_19 : (List Int)) =>
  cntK (l1 list) (list.length) 0 (l19_19) (e1 )

def P (list : (List Go.Proofs.Ytlljmgphgmklcaa.PMail.Mail)) (from_1 : Int) (minute : Int) : Option ((List Int)) :=
  guardK (0 ≤ 10 ∧ 10 ≤ 1099511627776) <|
  letK (List.replicate 10 0) fun (t_1 : (List Int)) =>
  cntK (l0 ) (t_1.length) 0 (t_1) (e0 list from_1 minute)

set_option maxRecDepth 100000 in
set_option maxHeartbeats 2000000 in
theorem C (list : (List Go.Proofs.Ytlljmgphgmklcaa.PMail.Mail)) (from_1 : Int) (minute : Int) (A0 : Option Addr) (c0 : Nat)  (w : World) (M0 : Hid (Cells w 4 A0 list.length (Go.Proofs.Ytlljmgphgmklcaa.PMail.flat list))) (N0 : Hid (list.length ≤ 9223372036854775807))  {r : (List Int)} (H : Hid (P list from_1 minute = some r)) :
    Calls Try.prog 145 #[.slice A0 list.length c0, .int .i64 from_1, .int .i64 minute] w (fun e w' => ∃ A_r c_r, e = .returned (.slice A_r r.length c_r) ∧ w'.ownsRow w.heap.size 3 1 (.slice A_r r.length c_r) r.length (Go.Proofs.Ytlljmgphgmklcaa.HelpInt.iv r) ∧ Below w.heap.size w w') := by
  have HB := Lib.hid (Below.refl w.heap.size w)
  unfold P at H
  have N0o := N0.out
  obtain ⟨i0_3, hi_3, hz0_3, hz1_3, hz2_3⟩ := Aid.info_parts (P := Try.prog) (T := 3) (z := .int .i64 0) (s := 1) (b := 8) (by kernel_rfl)
  go_enter Try.func145, Try.ntmps145
  replace H := guard_hid H
  obtain ⟨hnt_1, H⟩ := H
  replace H := let_hid H
  obtain ⟨t_1, ht_1, H⟩ := H
  have hst_1 := HB.out.size
  have hlt_1 : t_1.length = 10 := by rw [← ht_1]; simp
  have hht_1 := Lib.hid ht_1
  clear ht_1
  go_wp2_with (at_make; refine wpList_make_full _ rfl _ _ 48 rfl w.heap.size 3 i0_3 (.int .i64 0) 1 Try.underlying48 hi_3 hz0_3 hz1_3 .i64 .i64 _ _ 10 rfl rfl (by omega) (by omega) (by rw [hz2_3]; omega) (by unfold maxLen; omega) hst_1 ?_; intro wt_1 ot_1 gt_1; have Qt_1 := Lib.hid ot_1; have Gt_1 := Lib.hid gt_1; clear ot_1 gt_1; refine stop_in ?_)
  refine stop_out ?_
  have Et_1 : (Go.Proofs.Ytlljmgphgmklcaa.HelpInt.iv t_1) = (madeCells (.int .i64 0 : Value).cells (10 * 1)).toList := by
    rw [made_flat (fun x => [.int .i64 x]) 0 _ 1 _ rfl rfl (by decide), ← hht_1.out]
    exact map_flat _ _
  have Pt_1 : Hid (wt_1.ownsRow w.heap.size 3 1 (.slice (some ⟨w.heap.size, 0, none⟩) 10 10) 10 (Go.Proofs.Ytlljmgphgmklcaa.HelpInt.iv t_1)) := Lib.hid (by rw [Et_1]; exact Qt_1.out)
  clear Et_1
  replace hlt_1 := Lib.hid hlt_1
  clear Qt_1 hst_1
  have bt_1 : Below w.heap.size w wt_1 := (Below.refl _ _).grown Gt_1.out (Nat.le_refl _) (by simp)
  clear Gt_1
  have HBwt_1 := Lib.hid (Below.step HB.out bt_1)
  clear bt_1
  go_wp2_with fail
  go_wp2_with fail
  have hc_ := hlt_1.out
  have hv_ : (Value.slice (some ⟨w.heap.size, 0, none⟩) 10 10 : Value) = Value.slice (some ⟨w.heap.size, 0, none⟩) t_1.length 10 := by rw [hc_]
  try rw [hv_]
  replace Pt_1 := Lib.hid (own_len hc_ Pt_1.out)
  clear hc_ hv_
  have hb_0 : t_1.length ≤ 9223372036854775807 := own_max Pt_1.out
  go_wp2_with fail
  go_loopg [8] (t_1.length) (fun m_ v8_ wr => ∃ (k0 : Nat) (out_7l0 : (List Int)), k0 + m_ = t_1.length ∧ v8_ = .int .i64 (k0 : Int) ∧ Hid (cntK (l0 ) m_ k0 (out_7l0) (e0 list from_1 minute) = some r) ∧ Hid (Below w.heap.size w wr) ∧ Hid (wr.ownsRow w.heap.size 3 1 (.slice (some ⟨w.heap.size, 0, none⟩) t_1.length 10) t_1.length (Go.Proofs.Ytlljmgphgmklcaa.HelpInt.iv out_7l0)) ∧ Hid (out_7l0.length = t_1.length))
  case atStart => exact ⟨0, _, by omega, rfl, H, HBwt_1, Pt_1, Lib.hid (rfl)⟩
  case round =>
    obtain ⟨k0, out_7l0, hkm0, rfl, H, HBwr0, Oout_7l0, hnout_7l0⟩ := hrel
    rename World => wr0
    cases gk with
    | zero =>
      obtain rfl : k0 = t_1.length := by omega
      have hc0 : decide (((t_1.length : Nat) : Int) < ((t_1.length : Nat) : Int)) = false := by simp
      replace H := cnt_zero H
      unfold e0 at H
      replace H := let_hid H
      obtain ⟨_, rfl, H⟩ := H
      replace H := idx_hid H
      obtain ⟨nt_18, yt_18, et_18, lt_18, gt_18, H⟩ := H
      subst et_18
      have hqt_18 := hnout_7l0.out
      obtain ⟨ab_t_18, ao_t_18, zt_18, At_18, z_t_18, ct_18_0⟩ := Go.Proofs.Ytlljmgphgmklcaa.HelpInt.Ints.at_ (own_cells Oout_7l0.out) (k := nt_18) (by omega)
      obtain rfl := Option.some.inj (gt_18.out.symm.trans z_t_18)
      simp only [Option.some.injEq, Addr.mk.injEq] at At_18
      obtain ⟨rfl, rfl, _⟩ := At_18
      clear z_t_18
      simp only [Nat.zero_add] at ct_18_0
      have b0t_18 : (0 : Int) ≤ (nt_18 : Int) := by omega
      have b1t_18 : (nt_18 : Int) < ((t_1.length : Nat) : Int) := by omega
      have b2t_18 : ((nt_18 : Int)).toNat = nt_18 := by omega
      clear hqt_18
      replace H := let_hid H
      obtain ⟨l19_19, hl19_19, H⟩ := H
      try simp only [Int.toNat_natCast] at hl19_19
      obtain ⟨wl19_19, hwl19_19⟩ : ∃ x, (wr0).setCell ⟨w.heap.size, nt_18, none⟩ (.int .i64 minute) = x := ⟨_, rfl⟩
      have z0l19_19 := Oout_7l0.out.frozenAt (nt_18)
      have Sl19_19 := Lib.hid (own_stores [(nt_18, .int .i64 minute)] Oout_7l0.out)
      have nl19_19 : Hid (l19_19.length = t_1.length) := Lib.hid (by rw [← hl19_19, List.length_set]; exact hnout_7l0.out)
      have Pl19_19 : Hid (wl19_19.ownsRow w.heap.size 3 1 (.slice (some ⟨w.heap.size, 0, none⟩) t_1.length 10) t_1.length (Go.Proofs.Ytlljmgphgmklcaa.HelpInt.iv l19_19)) := Lib.hid (by have e_ : ([(nt_18, .int .i64 minute)] : List (Nat × Value)).foldl (fun xs p => xs.set p.1 p.2) (Go.Proofs.Ytlljmgphgmklcaa.HelpInt.iv out_7l0) = (Go.Proofs.Ytlljmgphgmklcaa.HelpInt.iv l19_19) := (by rw [← hl19_19]; first | done | simp [Go.Proofs.Ytlljmgphgmklcaa.HelpInt.iv, List.map_set]); rw [← hwl19_19, ← e_]; exact Sl19_19.out.1)
      have Gl19_19 : Hid (wr0.grownBy wl19_19 (Value.slice (some ⟨w.heap.size, 0, none⟩) t_1.length 10).ownBlock) := Lib.hid (by rw [← hwl19_19]; exact Sl19_19.out.2)
      have HBwl19_19 := Lib.hid (HBwr0.out.grown Gl19_19.out HBwr0.out.size (fun q hq => (Oout_7l0.out.lt q hq).1))
      have hhl19_19 := Lib.hid hl19_19
      clear hl19_19 Sl19_19
      clear Oout_7l0 Gl19_19
      go_wp2_with fail
      clear z0l19_19 ct_18_0
      go_wp2_with fail
      go_loopg [9] (list.length) (fun m_ v9_ wr => ∃ (k1 : Nat) (out_7l1 : (List Int)), k1 + m_ = list.length ∧ v9_ = .int .i64 (k1 : Int) ∧ Hid (cntK (l1 list) m_ k1 (out_7l1) (e1 ) = some r) ∧ Hid (Below w.heap.size w wr) ∧ Hid (wr.ownsRow w.heap.size 3 1 (.slice (some ⟨w.heap.size, 0, none⟩) t_1.length 10) t_1.length (Go.Proofs.Ytlljmgphgmklcaa.HelpInt.iv out_7l1)) ∧ Hid (out_7l1.length = t_1.length))
      case atStart => exact ⟨0, _, by omega, rfl, H, HBwl19_19, Pl19_19, Lib.hid (nl19_19.out)⟩
      case round =>
        obtain ⟨k1, out_7l1, hkm1, rfl, H, HBwr1, Oout_7l1, hnout_7l1⟩ := hrel
        rename World => wr1
        cases gk with
        | zero =>
          obtain rfl : k1 = list.length := by omega
          have hc1 : decide (((list.length : Nat) : Int) < ((list.length : Nat) : Int)) = false := by simp
          replace H := cnt_zero H
          unfold e1 at H
          replace H := let_hid H
          obtain ⟨_, rfl, H⟩ := H
          obtain rfl := ret_hid H
          go_wp2_with fail
          go_ret
          have hr_0 := hnout_7l1.out
          replace Oout_7l1 := Lib.hid (own_len hr_0 Oout_7l1.out)
          exact ⟨(some ⟨w.heap.size, 0, none⟩), 10, (by first | (rw [hr_0]; done) | (rw [hr_0]; rfl)), Oout_7l1.out, HBwr1.out⟩
        | succ m1 =>
          have hlt1 : k1 < list.length := by omega
          have hc1 : decide ((k1 : Int) < ((list.length : Nat) : Int)) = true := by simp; omega
          replace H := cnt_succ H
          unfold l1 at H
          replace H := let_hid H
          obtain ⟨_, rfl, H⟩ := H
          replace H := idx_hid H
          obtain ⟨nt_27, yt_27, et_27, lt_27, gt_27, H⟩ := H
          obtain rfl : k1 = nt_27 := by omega
          clear et_27
          obtain ⟨t_27_leave, t_27_from_, t_27_to_, t_27_arrive⟩ := yt_27
          replace H := unMail_hid H
          obtain ⟨ab_t_27, ao_t_27, zt_27, At_27, z_t_27, ct_27_0, ct_27_1, ct_27_2, ct_27_3⟩ := Go.Proofs.Ytlljmgphgmklcaa.OMail.at_ M0.out lt_27
          obtain rfl := Option.some.inj (gt_27.out.symm.trans z_t_27)
          subst At_27
          have ltt_27 := cell_lt ct_27_0
          replace ct_27_0 := cell_below HBwr1.out ct_27_0
          replace ct_27_1 := cell_below HBwr1.out ct_27_1
          replace ct_27_2 := cell_below HBwr1.out ct_27_2
          replace ct_27_3 := cell_below HBwr1.out ct_27_3
          clear z_t_27
          have b0t_27 : (0 : Int) ≤ (k1 : Int) := by omega
          have b1t_27 : (k1 : Int) < ((list.length : Nat) : Int) := by omega
          have b2t_27 : ((k1 : Int)).toNat = k1 := by omega
          obtain ⟨w_x_29, hw_x_29⟩ : ∃ x, wr1.alloc (.cells #[.int .i64 t_27_leave, .int .i64 t_27_from_, .int .i64 t_27_to_, .int .i64 t_27_arrive] 108) = x := ⟨_, rfl⟩
          have bw_x_29 : Below wr1.heap.size wr1 w_x_29 := by rw [← hw_x_29]; exact (Below.refl _ _).alloc (Nat.le_refl _) _
          have Dx_29_out_7l1 := Lib.hid (apart_fresh Oout_7l1.out)
          have HBw_x_29 := Lib.hid (Below.step HBwr1.out bw_x_29)
          have ct_27_0__383 := cell_below bw_x_29 ct_27_0
          have ct_27_1__384 := cell_below bw_x_29 ct_27_1
          have ct_27_2__385 := cell_below bw_x_29 ct_27_2
          have ct_27_3__386 := cell_below bw_x_29 ct_27_3
          replace Oout_7l1 := Lib.hid (own_below Oout_7l1.out bw_x_29)
          clear bw_x_29
          have kx_29_0 : w_x_29.cell? ⟨wr1.heap.size, 0, none⟩ = some (.int .i64 t_27_leave) := by rw [← hw_x_29]; exact box_new _ _ _ 0 _ rfl
          have kx_29_1 : w_x_29.cell? ⟨wr1.heap.size, 1, none⟩ = some (.int .i64 t_27_from_) := by rw [← hw_x_29]; exact box_new _ _ _ 1 _ rfl
          have kx_29_2 : w_x_29.cell? ⟨wr1.heap.size, 2, none⟩ = some (.int .i64 t_27_to_) := by rw [← hw_x_29]; exact box_new _ _ _ 2 _ rfl
          have kx_29_3 : w_x_29.cell? ⟨wr1.heap.size, 3, none⟩ = some (.int .i64 t_27_arrive) := by rw [← hw_x_29]; exact box_new _ _ _ 3 _ rfl
          go_wp2_with fail
          clear ct_27_0 ct_27_1 ct_27_2 ct_27_3
          have Hct_27_0__383 := Lib.hid ct_27_0__383
          replace ct_27_0__383 := cell_regrown ct_27_0__383
          have Hct_27_1__384 := Lib.hid ct_27_1__384
          replace ct_27_1__384 := cell_regrown ct_27_1__384
          have Hct_27_2__385 := Lib.hid ct_27_2__385
          replace ct_27_2__385 := cell_regrown ct_27_2__385
          have Hct_27_3__386 := Lib.hid ct_27_3__386
          replace ct_27_3__386 := cell_regrown ct_27_3__386
          have Hkx_29_0 := Lib.hid kx_29_0
          replace kx_29_0 := cell_regrown kx_29_0
          have Hkx_29_1 := Lib.hid kx_29_1
          replace kx_29_1 := cell_regrown kx_29_1
          have Hkx_29_2 := Lib.hid kx_29_2
          replace kx_29_2 := cell_regrown kx_29_2
          have Hkx_29_3 := Lib.hid kx_29_3
          replace kx_29_3 := cell_regrown kx_29_3
          replace H := idx_hid H
          obtain ⟨nt_34, yt_34, et_34, lt_34, gt_34, H⟩ := H
          subst et_34
          have hqt_34 := hnout_7l1.out
          obtain ⟨ab_t_34, ao_t_34, zt_34, At_34, z_t_34, ct_34_0⟩ := Go.Proofs.Ytlljmgphgmklcaa.HelpInt.Ints.at_ (own_cells Oout_7l1.out) (k := nt_34) (by omega)
          obtain rfl := Option.some.inj (gt_34.out.symm.trans z_t_34)
          simp only [Option.some.injEq, Addr.mk.injEq] at At_34
          obtain ⟨rfl, rfl, _⟩ := At_34
          clear z_t_34
          simp only [Nat.zero_add] at ct_34_0
          have b0t_34 : (0 : Int) ≤ (nt_34 : Int) := by omega
          have b1t_34 : (nt_34 : Int) < ((t_1.length : Nat) : Int) := by omega
          have b2t_34 : ((nt_34 : Int)).toNat = nt_34 := by omega
          clear hqt_34
          have Hct_34_0 := Lib.hid ct_34_0
          replace ct_34_0 := cell_regrown ct_34_0
          replace H := let_hid H
          obtain ⟨t_38, ht_38, H⟩ := H
          refine wp_region_quiet_below (by kernel_rfl) (by kernel_rfl) ?_
          repeat (go_big_quiet_step (fail))
          refine wpQuiet_nil ?_
          intro Y11 hY11
          replace hY11 := below_class hY11
          replace ct_27_0__383 := Hct_27_0__383.out
          clear Hct_27_0__383
          replace ct_27_1__384 := Hct_27_1__384.out
          clear Hct_27_1__384
          replace ct_27_2__385 := Hct_27_2__385.out
          clear Hct_27_2__385
          replace ct_27_3__386 := Hct_27_3__386.out
          clear Hct_27_3__386
          replace kx_29_0 := Hkx_29_0.out
          clear Hkx_29_0
          replace kx_29_1 := Hkx_29_1.out
          clear Hkx_29_1
          replace kx_29_2 := Hkx_29_2.out
          clear Hkx_29_2
          replace kx_29_3 := Hkx_29_3.out
          clear Hkx_29_3
          replace ct_34_0 := Hct_34_0.out
          clear Hct_34_0
          have HBY11 := Lib.hid (Below.step HBw_x_29.out hY11)
          replace ct_27_0__383 := cell_below hY11 ct_27_0__383
          replace ct_27_1__384 := cell_below hY11 ct_27_1__384
          replace ct_27_2__385 := cell_below hY11 ct_27_2__385
          replace ct_27_3__386 := cell_below hY11 ct_27_3__386
          replace kx_29_0 := cell_below hY11 kx_29_0
          replace kx_29_1 := cell_below hY11 kx_29_1
          replace kx_29_2 := cell_below hY11 kx_29_2
          replace kx_29_3 := cell_below hY11 kx_29_3
          replace ct_34_0 := cell_below hY11 ct_34_0
          replace Oout_7l1 := Lib.hid (own_below Oout_7l1.out hY11)
          clear hY11
          cases t_38 with
          | false =>
            replace H := ite_f H
            replace H := app_hid H
            go_wp2_with fail
            go_roundg m1
            case measure => omega
            case rel => exact ⟨k1 + 1, _, by omega, by go_num, H, HBY11, Oout_7l1, Lib.hid (hnout_7l1.out)⟩
          | true =>
            replace H := ite_t H
            go_wp2_with fail
            obtain ⟨Z12, hZ12⟩ : ∃ x, Y11.drew = x := ⟨_, rfl⟩
            have bd12 : Below Y11.heap.size Y11 Z12 := by rw [← hZ12]; exact (Below.refl _ _).drew
            have HBZ12 := Lib.hid (Below.step HBY11.out bd12)
            replace ct_27_0__383 := cell_below bd12 ct_27_0__383
            replace ct_27_1__384 := cell_below bd12 ct_27_1__384
            replace ct_27_2__385 := cell_below bd12 ct_27_2__385
            replace ct_27_3__386 := cell_below bd12 ct_27_3__386
            replace kx_29_0 := cell_below bd12 kx_29_0
            replace kx_29_1 := cell_below bd12 kx_29_1
            replace kx_29_2 := cell_below bd12 kx_29_2
            replace kx_29_3 := cell_below bd12 kx_29_3
            replace ct_34_0 := cell_below bd12 ct_34_0
            replace Oout_7l1 := Lib.hid (own_below Oout_7l1.out bd12)
            clear bd12
            replace H := idx_hid H
            obtain ⟨nt_45, yt_45, et_45, lt_45, gt_45, H⟩ := H
            subst et_45
            have hqt_45 := hnout_7l1.out
            obtain ⟨ab_t_45, ao_t_45, zt_45, At_45, z_t_45, ct_45_0⟩ := Go.Proofs.Ytlljmgphgmklcaa.HelpInt.Ints.at_ (own_cells Oout_7l1.out) (k := nt_45) (by omega)
            obtain rfl := Option.some.inj (gt_45.out.symm.trans z_t_45)
            simp only [Option.some.injEq, Addr.mk.injEq] at At_45
            obtain ⟨rfl, rfl, _⟩ := At_45
            clear z_t_45
            simp only [Nat.zero_add] at ct_45_0
            have b0t_45 : (0 : Int) ≤ (nt_45 : Int) := by omega
            have b1t_45 : (nt_45 : Int) < ((t_1.length : Nat) : Int) := by omega
            have b2t_45 : ((nt_45 : Int)).toNat = nt_45 := by omega
            clear hqt_45
            replace H := bind_hid H
            obtain ⟨t_49, qt_49, H⟩ := H
            replace H := idx_hid H
            obtain ⟨nt_50, yt_50, et_50, lt_50, gt_50, H⟩ := H
            obtain rfl : nt_45 = nt_50 := by omega
            clear et_50
            obtain rfl := Option.some.inj (gt_45.out.symm.trans gt_50.out)
            clear gt_50 lt_50
            refine wp_region_still_tail 12 (by kernel_rfl) (by kernel_rfl) ?_
            simp only [List.take_succ_cons, List.take_zero, List.drop_succ_cons, List.drop_zero]
            change wpStill _ _ Y11.drew _ _ _
            rw [hZ12]
            still_step
            still_step
            still_step
            still_step
            still_step
            still_step
            still_step
            still_step
            still_step
            still_step
            still_call (Go.Proofs.Ytlljmgphgmklcaa.GsL1Least.C0 (yt_45) (t_27_arrive)  _    qt_49)
            still_step
            refine wpStill_nil ?_
            change wpList _ _ _ _ _ Y11.drew
            rw [hZ12]
            clear hZ12
            replace H := let_hid H
            obtain ⟨l51_51, hl51_51, H⟩ := H
            try simp only [Int.toNat_natCast] at hl51_51
            obtain ⟨wl51_51, hwl51_51⟩ : ∃ x, (Z12).setCell ⟨w.heap.size, nt_45, none⟩ (.int .i64 t_49) = x := ⟨_, rfl⟩
            have z0l51_51 := Oout_7l1.out.frozenAt (nt_45)
            have Sl51_51 := Lib.hid (own_stores [(nt_45, .int .i64 t_49)] Oout_7l1.out)
            have nl51_51 : Hid (l51_51.length = t_1.length) := Lib.hid (by rw [← hl51_51, List.length_set]; exact hnout_7l1.out)
            have Pl51_51 : Hid (wl51_51.ownsRow w.heap.size 3 1 (.slice (some ⟨w.heap.size, 0, none⟩) t_1.length 10) t_1.length (Go.Proofs.Ytlljmgphgmklcaa.HelpInt.iv l51_51)) := Lib.hid (by have e_ : ([(nt_45, .int .i64 t_49)] : List (Nat × Value)).foldl (fun xs p => xs.set p.1 p.2) (Go.Proofs.Ytlljmgphgmklcaa.HelpInt.iv out_7l1) = (Go.Proofs.Ytlljmgphgmklcaa.HelpInt.iv l51_51) := (by rw [← hl51_51]; first | done | simp [Go.Proofs.Ytlljmgphgmklcaa.HelpInt.iv, List.map_set]); rw [← hwl51_51, ← e_]; exact Sl51_51.out.1)
            have Gl51_51 : Hid (Z12.grownBy wl51_51 (Value.slice (some ⟨w.heap.size, 0, none⟩) t_1.length 10).ownBlock) := Lib.hid (by rw [← hwl51_51]; exact Sl51_51.out.2)
            have HBwl51_51 := Lib.hid (HBZ12.out.grown Gl51_51.out HBZ12.out.size (fun q hq => (Oout_7l1.out.lt q hq).1))
            have hhl51_51 := Lib.hid hl51_51
            clear hl51_51 Sl51_51
            have ct_27_0__387 := cell_other ct_27_0__383 Gl51_51.out (apart_old Oout_7l1.out ltt_27)
            have ct_27_1__388 := cell_other ct_27_1__384 Gl51_51.out (apart_old Oout_7l1.out ltt_27)
            have ct_27_2__389 := cell_other ct_27_2__385 Gl51_51.out (apart_old Oout_7l1.out ltt_27)
            have ct_27_3__390 := cell_other ct_27_3__386 Gl51_51.out (apart_old Oout_7l1.out ltt_27)
            have kx_29_0__391 := cell_other kx_29_0 Gl51_51.out (Apart.symm Dx_29_out_7l1.out)
            have kx_29_1__392 := cell_other kx_29_1 Gl51_51.out (Apart.symm Dx_29_out_7l1.out)
            have kx_29_2__393 := cell_other kx_29_2 Gl51_51.out (Apart.symm Dx_29_out_7l1.out)
            have kx_29_3__394 := cell_other kx_29_3 Gl51_51.out (Apart.symm Dx_29_out_7l1.out)
            clear Oout_7l1 Gl51_51
            replace H := app_hid H
            go_wp2_with fail
            clear z0l51_51 ct_27_0__383 ct_27_1__384 ct_27_2__385 ct_27_3__386 kx_29_0 kx_29_1 kx_29_2 kx_29_3 ct_34_0 ct_45_0
            go_roundg m1
            case measure => omega
            case rel => exact ⟨k1 + 1, _, by omega, by go_num, H, HBwl51_51, Pl51_51, Lib.hid (nl51_51.out)⟩
    | succ m0 =>
      have hlt0 : k0 < t_1.length := by omega
      have hc0 : decide ((k0 : Int) < ((t_1.length : Nat) : Int)) = true := by simp; omega
      replace H := cnt_succ H
      unfold l0 at H
      replace H := let_hid H
      obtain ⟨_, rfl, H⟩ := H
      replace H := idx_hid H
      obtain ⟨nt_10, yt_10, et_10, lt_10, gt_10, H⟩ := H
      obtain rfl : k0 = nt_10 := by omega
      clear et_10
      have hqt_10 := hnout_7l0.out
      obtain ⟨ab_t_10, ao_t_10, zt_10, At_10, z_t_10, ct_10_0⟩ := Go.Proofs.Ytlljmgphgmklcaa.HelpInt.Ints.at_ (own_cells Oout_7l0.out) (k := k0) (by omega)
      obtain rfl := Option.some.inj (gt_10.out.symm.trans z_t_10)
      simp only [Option.some.injEq, Addr.mk.injEq] at At_10
      obtain ⟨rfl, rfl, _⟩ := At_10
      clear z_t_10
      simp only [Nat.zero_add] at ct_10_0
      have b0t_10 : (0 : Int) ≤ (k0 : Int) := by omega
      have b1t_10 : (k0 : Int) < ((t_1.length : Nat) : Int) := by omega
      have b2t_10 : ((k0 : Int)).toNat = k0 := by omega
      clear hqt_10
      replace H := let_hid H
      obtain ⟨l11_11, hl11_11, H⟩ := H
      try simp only [Int.toNat_natCast] at hl11_11
      obtain ⟨wl11_11, hwl11_11⟩ : ∃ x, (wr0).setCell ⟨w.heap.size, k0, none⟩ (.int .i64 10000) = x := ⟨_, rfl⟩
      have z0l11_11 := Oout_7l0.out.frozenAt (k0)
      have Sl11_11 := Lib.hid (own_stores [(k0, .int .i64 10000)] Oout_7l0.out)
      have nl11_11 : Hid (l11_11.length = t_1.length) := Lib.hid (by rw [← hl11_11, List.length_set]; exact hnout_7l0.out)
      have Pl11_11 : Hid (wl11_11.ownsRow w.heap.size 3 1 (.slice (some ⟨w.heap.size, 0, none⟩) t_1.length 10) t_1.length (Go.Proofs.Ytlljmgphgmklcaa.HelpInt.iv l11_11)) := Lib.hid (by have e_ : ([(k0, .int .i64 10000)] : List (Nat × Value)).foldl (fun xs p => xs.set p.1 p.2) (Go.Proofs.Ytlljmgphgmklcaa.HelpInt.iv out_7l0) = (Go.Proofs.Ytlljmgphgmklcaa.HelpInt.iv l11_11) := (by rw [← hl11_11]; first | done | simp [Go.Proofs.Ytlljmgphgmklcaa.HelpInt.iv, List.map_set]); rw [← hwl11_11, ← e_]; exact Sl11_11.out.1)
      have Gl11_11 : Hid (wr0.grownBy wl11_11 (Value.slice (some ⟨w.heap.size, 0, none⟩) t_1.length 10).ownBlock) := Lib.hid (by rw [← hwl11_11]; exact Sl11_11.out.2)
      have HBwl11_11 := Lib.hid (HBwr0.out.grown Gl11_11.out HBwr0.out.size (fun q hq => (Oout_7l0.out.lt q hq).1))
      have hhl11_11 := Lib.hid hl11_11
      clear hl11_11 Sl11_11
      clear Oout_7l0 Gl11_11
      replace H := app_hid H
      go_wp2_with fail
      clear z0l11_11 ct_10_0
      go_roundg m0
      case measure => omega
      case rel => exact ⟨k0 + 1, _, by omega, by go_num, H, HBwl11_11, Pl11_11, Lib.hid (nl11_11.out)⟩
end Go.Proofs.Ytlljmgphgmklcaa.GsL9Times

