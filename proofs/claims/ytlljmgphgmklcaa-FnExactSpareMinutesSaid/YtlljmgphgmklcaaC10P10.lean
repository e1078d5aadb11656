/- Texts on which the proofs of several laws stand, one behind the other (10 of 21). No condition of their own. -/
import Derived.Test.YtlljmgphgmklcaaChecked
import Derived.Test.YtlljmgphgmklcaaC10P1
import Derived.Test.YtlljmgphgmklcaaC10P4
import Derived.Test.YtlljmgphgmklcaaC10P5
import Derived.WalkKit
import Derived.WalkSpells
import Derived.WalkLawsBesides
import Derived.BigQuiet
import Derived.OwnWalk
import Derived.Deep.LoopGhost
import Derived.Deep.QuietTactic
import Derived.IntWalk
import Derived.Lib.QuietBelow
import Derived.Test.YtlljmgphgmklcaaC10P2
import Derived.Test.YtlljmgphgmklcaaC10P9
import Derived.Test.YtlljmgphgmklcaaC10P7
import Derived.Test.YtlljmgphgmklcaaC10P8
import Derived.StillTailTactics
/- loop.example/g01062/laws.markMailS as a plain function, and the contract of the program's: where the plain one has an answer, the program has it. Conditions: slices read as lists. -/
namespace Go.Proofs.Ytlljmgphgmklcaa.GlMarkMailS
set_option linter.unusedVariables false
set_option linter.unusedSimpArgs false
open Go.RowKit
open Go.Proofs.Ytlljmgphgmklcaa.Rowed Go.Proofs.Ytlljmgphgmklcaa.Turn Go.Proofs.Ytlljmgphgmklcaa.Aid Go.Proofs.Ytlljmgphgmklcaa.GoP Go.Proofs.Ytlljmgphgmklcaa.GoM

def l0  (k0 : Nat) (s : (List Go.Proofs.Ytlljmgphgmklcaa.PMail.Mail) × Int) (nx0 bk0 : (List Go.Proofs.Ytlljmgphgmklcaa.PMail.Mail) × Int → Option (Int × (List Go.Proofs.Ytlljmgphgmklcaa.PMail.Mail))) : Option (Int × (List Go.Proofs.Ytlljmgphgmklcaa.PMail.Mail)) :=
  unp2 s fun a_0l0 k_1l0 =>
  Option.bind (idx a_0l0 (k0 : Int)) fun (yt_9 : Go.Proofs.Ytlljmgphgmklcaa.PMail.Mail) =>
  unMail yt_9 fun (t_9_leave : Int) (t_9_from_ : Int) (t_9_to_ : Int) (t_9_arrive : Int) =>
  letK (a_0l0.set k0 (Go.Proofs.Ytlljmgphgmklcaa.PMail.Mail.mk k_1l0 t_9_from_ t_9_to_ t_9_arrive)) fun (l11_11 : (List Go.Proofs.Ytlljmgphgmklcaa.PMail.Mail)) =>
  letK (IntKind.i64.wrap (k_1l0 + 1)) fun (t_13 : Int) =>
  Option.bind (idx l11_11 (k0 : Int)) fun (yt_18 : Go.Proofs.Ytlljmgphgmklcaa.PMail.Mail) =>
  unMail yt_18 fun (t_18_leave : Int) (t_18_from_ : Int) (t_18_to_ : Int) (t_18_arrive : Int) =>
  letK (l11_11.set k0 (Go.Proofs.Ytlljmgphgmklcaa.PMail.Mail.mk t_18_leave t_13 t_18_to_ t_18_arrive)) fun (l20_20 : (List Go.Proofs.Ytlljmgphgmklcaa.PMail.Mail)) =>
  letK (IntKind.i64.wrap (t_13 + 1)) fun (t_22 : Int) =>
  Option.bind (idx l20_20 (k0 : Int)) fun (yt_27 : Go.Proofs.Ytlljmgphgmklcaa.PMail.Mail) =>
  unMail yt_27 fun (t_27_leave : Int) (t_27_from_ : Int) (t_27_to_ : Int) (t_27_arrive : Int) =>
  letK (l20_20.set k0 (Go.Proofs.Ytlljmgphgmklcaa.PMail.Mail.mk t_27_leave t_27_from_ t_22 t_27_arrive)) fun (l29_29 : (List Go.Proofs.Ytlljmgphgmklcaa.PMail.Mail)) =>
  letK (IntKind.i64.wrap (t_22 + 1)) fun (t_31 : Int) =>
  Option.bind (idx l29_29 (k0 : Int)) fun (yt_36 : Go.Proofs.Ytlljmgphgmklcaa.PMail.Mail) =>
  unMail yt_36 fun (t_36_leave : Int) (t_36_from_ : Int) (t_36_to_ : Int) (t_36_arrive : Int) =>
  letK (l29_29.set k0 (Go.Proofs.Ytlljmgphgmklcaa.PMail.Mail.mk t_36_leave t_36_from_ t_36_to_ t_31)) fun (l38_38 : (List Go.Proofs.Ytlljmgphgmklcaa.PMail.Mail)) =>
  letK (IntKind.i64.wrap (t_31 + 1)) fun (t_40 : Int) =>
  appK nx0 (l38_38, t_40)

def e0  (s : (List Go.Proofs.Ytlljmgphgmklcaa.PMail.Mail) × Int) : Option (Int × (List Go.Proofs.Ytlljmgphgmklcaa.PMail.Mail)) :=
  unp2 s fun a_0l0 k_1l0 =>
  some (k_1l0, a_0l0)

def P (a : (List Go.Proofs.Ytlljmgphgmklcaa.PMail.Mail)) (k_1 : Int) : Option (Int × (List Go.Proofs.Ytlljmgphgmklcaa.PMail.Mail)) :=
  cntK (l0 ) (a.length) 0 (a, k_1) (e0 )

set_option maxRecDepth 100000 in
set_option maxHeartbeats 2000000 in
theorem C (a : (List Go.Proofs.Ytlljmgphgmklcaa.PMail.Mail)) (k_1 : Int) (A0 : Option Addr) (c0 : Nat)  (b0 : Nat) (w : World) (M0 : Hid (w.ownsRow b0 108 4 (.slice A0 a.length c0) a.length (Go.Proofs.Ytlljmgphgmklcaa.PMail.flat a))) (N0 : Hid (a.length ≤ 9223372036854775807))  {r : Int} {l_ : (List Go.Proofs.Ytlljmgphgmklcaa.PMail.Mail)} (H : Hid (P a k_1 = some (r, l_))) :
    Calls Try.prog 36 #[.slice A0 a.length c0, .int .i64 k_1] w (fun e w' => e = .returned (.int .i64 r) ∧ w'.ownsRow b0 108 4 (.slice A0 a.length c0) a.length (Go.Proofs.Ytlljmgphgmklcaa.PMail.flat l_) ∧ l_.length = a.length ∧ w.grownBy w' (Value.slice A0 a.length c0).ownBlock) := by
  have HB := Lib.hid (Aid.grown_refl w (Value.slice A0 a.length c0).ownBlock)
  unfold P at H
  have N0o := N0.out
  go_enter Try.func36, Try.ntmps36
  go_wp2_with fail
  have hb_0 : a.length ≤ 9223372036854775807 := own_max M0.out
  go_wp2_with fail
  go_loopg [5, 1] (a.length) (fun m_ v5_ v1_ wr => ∃ (k0 : Nat) (a_0l0 : (List Go.Proofs.Ytlljmgphgmklcaa.PMail.Mail)) (k_1l0 : Int), k0 + m_ = a.length ∧ v5_ = .int .i64 (k0 : Int) ∧ v1_ = .int .i64 k_1l0 ∧ Hid (cntK (l0 ) m_ k0 (a_0l0, k_1l0) (e0 ) = some (r, l_)) ∧ Hid (w.grownBy wr (Value.slice A0 a.length c0).ownBlock) ∧ Hid (wr.ownsRow b0 108 4 (.slice A0 a.length c0) a.length (Go.Proofs.Ytlljmgphgmklcaa.PMail.flat a_0l0)) ∧ Hid (a_0l0.length = a.length))
  case atStart => exact ⟨0, _, _, by omega, rfl, rfl, H, HB, M0, Lib.hid (rfl)⟩
  case round =>
    obtain ⟨k0, a_0l0, k_1l0, hkm0, rfl, rfl, H, HBwr0, Oa_0l0, hna_0l0⟩ := hrel
    rename World => wr0
    cases gk with
    | zero =>
      obtain rfl : k0 = a.length := by omega
      have hc0 : decide (((a.length : Nat) : Int) < ((a.length : Nat) : Int)) = false := by simp
      replace H := cnt_zero H
      unfold e0 at H
      replace H := unp2_hid H
      cases ret_hid H
      go_wp2_with fail
      go_ret
      exact ⟨rfl, Oa_0l0.out, hna_0l0.out, HBwr0.out⟩
    | succ m0 =>
      have hlt0 : k0 < a.length := by omega
      have hc0 : decide ((k0 : Int) < ((a.length : Nat) : Int)) = true := by simp; omega
      replace H := cnt_succ H
      unfold l0 at H
      replace H := unp2_hid H
      replace H := idx_hid H
      obtain ⟨nt_9, yt_9, et_9, lt_9, gt_9, H⟩ := H
      obtain rfl : k0 = nt_9 := by omega
      clear et_9
      obtain ⟨t_9_leave, t_9_from_, t_9_to_, t_9_arrive⟩ := yt_9
      replace H := unMail_hid H
      have hqt_9 := hna_0l0.out
      obtain ⟨qt_9, Qt_9⟩ := own_some Oa_0l0.out (by omega)
      subst Qt_9
      obtain ⟨ab_t_9, ao_t_9, zt_9, At_9, z_t_9, ct_9_0, ct_9_1, ct_9_2, ct_9_3⟩ := Go.Proofs.Ytlljmgphgmklcaa.OMail.at_ (own_cells Oa_0l0.out) (k := k0) (by omega)
      obtain rfl := Option.some.inj (gt_9.out.symm.trans z_t_9)
      simp only [Option.some.injEq, Addr.mk.injEq] at At_9
      obtain ⟨rfl, rfl, _⟩ := At_9
      clear z_t_9
      simp only [Nat.zero_add] at ct_9_0 ct_9_1 ct_9_2 ct_9_3
      have b0t_9 : (0 : Int) ≤ (k0 : Int) := by omega
      have b1t_9 : (k0 : Int) < ((a.length : Nat) : Int) := by omega
      have b2t_9 : ((k0 : Int)).toNat = k0 := by omega
      clear hqt_9
      replace H := let_hid H
      obtain ⟨l11_11, hl11_11, H⟩ := H
      try simp only [Int.toNat_natCast] at hl11_11
      obtain ⟨wl11_11, hwl11_11⟩ : ∃ x, (wr0).setCell ⟨qt_9, k0 * 4, none⟩ (.int .i64 k_1l0) = x := ⟨_, rfl⟩
      have z0l11_11 := Oa_0l0.out.frozenAt (k0 * 4)
      have Sl11_11 := Lib.hid (own_stores [(k0 * 4, .int .i64 k_1l0)] Oa_0l0.out)
      have nl11_11 : Hid (l11_11.length = a.length) := Lib.hid (by rw [← hl11_11, List.length_set]; exact hna_0l0.out)
      have Pl11_11 : Hid (wl11_11.ownsRow b0 108 4 (.slice (some ⟨qt_9, 0, none⟩) a.length c0) a.length (Go.Proofs.Ytlljmgphgmklcaa.PMail.flat l11_11)) := Lib.hid (by have es_ := set_self gt_9.out; have e0_ := flat_set Go.Proofs.Ytlljmgphgmklcaa.PMail.Mail.cells 4 (fun _ => rfl) a_0l0 (k0) 0 (Go.Proofs.Ytlljmgphgmklcaa.PMail.Mail.mk t_9_leave t_9_from_ t_9_to_ t_9_arrive) (Go.Proofs.Ytlljmgphgmklcaa.PMail.Mail.mk k_1l0 t_9_from_ t_9_to_ t_9_arrive) (.int .i64 k_1l0) lt_9 (by decide) rfl; rw [es_] at e0_; have e_ : ([(k0 * 4, .int .i64 k_1l0)] : List (Nat × Value)).foldl (fun xs p => xs.set p.1 p.2) (Go.Proofs.Ytlljmgphgmklcaa.PMail.flat a_0l0) = (Go.Proofs.Ytlljmgphgmklcaa.PMail.flat l11_11) := (by rw [← hl11_11]; show _ = List.flatMap Go.Proofs.Ytlljmgphgmklcaa.PMail.Mail.cells _; first | (rw [← e0_]; first | done | rfl)); rw [← hwl11_11, ← e_]; exact Sl11_11.out.1)
      have Gl11_11 : Hid (wr0.grownBy wl11_11 (Value.slice (some ⟨qt_9, 0, none⟩) a.length c0).ownBlock) := Lib.hid (by rw [← hwl11_11]; exact Sl11_11.out.2)
      have HBwl11_11 := Lib.hid (Aid.grown_tr HBwr0.out Gl11_11.out)
      have hhl11_11 := Lib.hid hl11_11
      clear hl11_11 Sl11_11
      clear Oa_0l0 Gl11_11
      replace H := let_hid H
      obtain ⟨t_13, ht_13, H⟩ := H
      replace H := idx_hid H
      obtain ⟨nt_18, yt_18, et_18, lt_18, gt_18, H⟩ := H
      obtain rfl : k0 = nt_18 := by omega
      clear et_18
      obtain ⟨t_18_leave, t_18_from_, t_18_to_, t_18_arrive⟩ := yt_18
      replace H := unMail_hid H
      have hqt_18 := nl11_11.out
      obtain ⟨ab_t_18, ao_t_18, zt_18, At_18, z_t_18, ct_18_0, ct_18_1, ct_18_2, ct_18_3⟩ := Go.Proofs.Ytlljmgphgmklcaa.OMail.at_ (own_cells Pl11_11.out) (k := k0) (by omega)
      obtain rfl := Option.some.inj (gt_18.out.symm.trans z_t_18)
      simp only [Option.some.injEq, Addr.mk.injEq] at At_18
      obtain ⟨rfl, rfl, _⟩ := At_18
      clear z_t_18
      simp only [Nat.zero_add] at ct_18_0 ct_18_1 ct_18_2 ct_18_3
      have b0t_18 : (0 : Int) ≤ (k0 : Int) := by omega
      have b1t_18 : (k0 : Int) < ((a.length : Nat) : Int) := by omega
      have b2t_18 : ((k0 : Int)).toNat = k0 := by omega
      clear hqt_18
      replace H := let_hid H
      obtain ⟨l20_20, hl20_20, H⟩ := H
      try simp only [Int.toNat_natCast] at hl20_20
      obtain ⟨wl20_20, hwl20_20⟩ : ∃ x, (wl11_11).setCell ⟨qt_9, k0 * 4 + 1, none⟩ (.int .i64 t_13) = x := ⟨_, rfl⟩
      have z0l20_20 := Pl11_11.out.frozenAt (k0 * 4 + 1)
      have Sl20_20 := Lib.hid (own_stores [(k0 * 4 + 1, .int .i64 t_13)] Pl11_11.out)
      have nl20_20 : Hid (l20_20.length = a.length) := Lib.hid (by rw [← hl20_20, List.length_set]; exact nl11_11.out)
      have Pl20_20 : Hid (wl20_20.ownsRow b0 108 4 (.slice (some ⟨qt_9, 0, none⟩) a.length c0) a.length (Go.Proofs.Ytlljmgphgmklcaa.PMail.flat l20_20)) := Lib.hid (by have es_ := set_self gt_18.out; have e0_ := flat_set Go.Proofs.Ytlljmgphgmklcaa.PMail.Mail.cells 4 (fun _ => rfl) l11_11 (k0) 1 (Go.Proofs.Ytlljmgphgmklcaa.PMail.Mail.mk t_18_leave t_18_from_ t_18_to_ t_18_arrive) (Go.Proofs.Ytlljmgphgmklcaa.PMail.Mail.mk t_18_leave t_13 t_18_to_ t_18_arrive) (.int .i64 t_13) lt_18 (by decide) rfl; rw [es_] at e0_; have e_ : ([(k0 * 4 + 1, .int .i64 t_13)] : List (Nat × Value)).foldl (fun xs p => xs.set p.1 p.2) (Go.Proofs.Ytlljmgphgmklcaa.PMail.flat l11_11) = (Go.Proofs.Ytlljmgphgmklcaa.PMail.flat l20_20) := (by rw [← hl20_20]; show _ = List.flatMap Go.Proofs.Ytlljmgphgmklcaa.PMail.Mail.cells _; first | (rw [← e0_]; first | done | rfl)); rw [← hwl20_20, ← e_]; exact Sl20_20.out.1)
      have Gl20_20 : Hid (wl11_11.grownBy wl20_20 (Value.slice (some ⟨qt_9, 0, none⟩) a.length c0).ownBlock) := Lib.hid (by rw [← hwl20_20]; exact Sl20_20.out.2)
      have HBwl20_20 := Lib.hid (Aid.grown_tr HBwl11_11.out Gl20_20.out)
      have hhl20_20 := Lib.hid hl20_20
      clear hl20_20 Sl20_20
      clear Pl11_11 Gl20_20
      replace H := let_hid H
      obtain ⟨t_22, ht_22, H⟩ := H
      replace H := idx_hid H
      obtain ⟨nt_27, yt_27, et_27, lt_27, gt_27, H⟩ := H
      obtain rfl : k0 = nt_27 := by omega
      clear et_27
      obtain ⟨t_27_leave, t_27_from_, t_27_to_, t_27_arrive⟩ := yt_27
      replace H := unMail_hid H
      have hqt_27 := nl20_20.out
      obtain ⟨ab_t_27, ao_t_27, zt_27, At_27, z_t_27, ct_27_0, ct_27_1, ct_27_2, ct_27_3⟩ := Go.Proofs.Ytlljmgphgmklcaa.OMail.at_ (own_cells Pl20_20.out) (k := k0) (by omega)
      obtain rfl := Option.some.inj (gt_27.out.symm.trans z_t_27)
      simp only [Option.some.injEq, Addr.mk.injEq] at At_27
      obtain ⟨rfl, rfl, _⟩ := At_27
      clear z_t_27
      simp only [Nat.zero_add] at ct_27_0 ct_27_1 ct_27_2 ct_27_3
      have b0t_27 : (0 : Int) ≤ (k0 : Int) := by omega
      have b1t_27 : (k0 : Int) < ((a.length : Nat) : Int) := by omega
      have b2t_27 : ((k0 : Int)).toNat = k0 := by omega
      clear hqt_27
      replace H := let_hid H
      obtain ⟨l29_29, hl29_29, H⟩ := H
      try simp only [Int.toNat_natCast] at hl29_29
      obtain ⟨wl29_29, hwl29_29⟩ : ∃ x, (wl20_20).setCell ⟨qt_9, k0 * 4 + 2, none⟩ (.int .i64 t_22) = x := ⟨_, rfl⟩
      have z0l29_29 := Pl20_20.out.frozenAt (k0 * 4 + 2)
      have Sl29_29 := Lib.hid (own_stores [(k0 * 4 + 2, .int .i64 t_22)] Pl20_20.out)
      have nl29_29 : Hid (l29_29.length = a.length) := Lib.hid (by rw [← hl29_29, List.length_set]; exact nl20_20.out)
      have Pl29_29 : Hid (wl29_29.ownsRow b0 108 4 (.slice (some ⟨qt_9, 0, none⟩) a.length c0) a.length (Go.Proofs.Ytlljmgphgmklcaa.PMail.flat l29_29)) := Lib.hid (by have es_ := set_self gt_27.out; have e0_ := flat_set Go.Proofs.Ytlljmgphgmklcaa.PMail.Mail.cells 4 (fun _ => rfl) l20_20 (k0) 2 (Go.Proofs.Ytlljmgphgmklcaa.PMail.Mail.mk t_27_leave t_27_from_ t_27_to_ t_27_arrive) (Go.Proofs.Ytlljmgphgmklcaa.PMail.Mail.mk t_27_leave t_27_from_ t_22 t_27_arrive) (.int .i64 t_22) lt_27 (by decide) rfl; rw [es_] at e0_; have e_ : ([(k0 * 4 + 2, .int .i64 t_22)] : List (Nat × Value)).foldl (fun xs p => xs.set p.1 p.2) (Go.Proofs.Ytlljmgphgmklcaa.PMail.flat l20_20) = (Go.Proofs.Ytlljmgphgmklcaa.PMail.flat l29_29) := (by rw [← hl29_29]; show _ = List.flatMap Go.Proofs.Ytlljmgphgmklcaa.PMail.Mail.cells _; first | (rw [← e0_]; first | done | rfl)); rw [← hwl29_29, ← e_]; exact Sl29_29.out.1)
      have Gl29_29 : Hid (wl20_20.grownBy wl29_29 (Value.slice (some ⟨qt_9, 0, none⟩) a.length c0).ownBlock) := Lib.hid (by rw [← hwl29_29]; exact Sl29_29.out.2)
      have HBwl29_29 := Lib.hid (Aid.grown_tr HBwl20_20.out Gl29_29.out)
      have hhl29_29 := Lib.hid hl29_29
      clear hl29_29 Sl29_29
      clear Pl20_20 Gl29_29
      replace H := let_hid H
      obtain ⟨t_31, ht_31, H⟩ := H
      replace H := idx_hid H
      obtain ⟨nt_36, yt_36, et_36, lt_36, gt_36, H⟩ := H
      obtain rfl : k0 = nt_36 := by omega
      clear et_36
      obtain ⟨t_36_leave, t_36_from_, t_36_to_, t_36_arrive⟩ := yt_36
      replace H := unMail_hid H
      have hqt_36 := nl29_29.out
      obtain ⟨ab_t_36, ao_t_36, zt_36, At_36, z_t_36, ct_36_0, ct_36_1, ct_36_2, ct_36_3⟩ := Go.Proofs.Ytlljmgphgmklcaa.OMail.at_ (own_cells Pl29_29.out) (k := k0) (by omega)
      obtain rfl := Option.some.inj (gt_36.out.symm.trans z_t_36)
      simp only [Option.some.injEq, Addr.mk.injEq] at At_36
      obtain ⟨rfl, rfl, _⟩ := At_36
      clear z_t_36
      simp only [Nat.zero_add] at ct_36_0 ct_36_1 ct_36_2 ct_36_3
      have b0t_36 : (0 : Int) ≤ (k0 : Int) := by omega
      have b1t_36 : (k0 : Int) < ((a.length : Nat) : Int) := by omega
      have b2t_36 : ((k0 : Int)).toNat = k0 := by omega
      clear hqt_36
      replace H := let_hid H
      obtain ⟨l38_38, hl38_38, H⟩ := H
      try simp only [Int.toNat_natCast] at hl38_38
      obtain ⟨wl38_38, hwl38_38⟩ : ∃ x, (wl29_29).setCell ⟨qt_9, k0 * 4 + 3, none⟩ (.int .i64 t_31) = x := ⟨_, rfl⟩
      have z0l38_38 := Pl29_29.out.frozenAt (k0 * 4 + 3)
      have Sl38_38 := Lib.hid (own_stores [(k0 * 4 + 3, .int .i64 t_31)] Pl29_29.out)
      have nl38_38 : Hid (l38_38.length = a.length) := Lib.hid (by rw [← hl38_38, List.length_set]; exact nl29_29.out)
      have Pl38_38 : Hid (wl38_38.ownsRow b0 108 4 (.slice (some ⟨qt_9, 0, none⟩) a.length c0) a.length (Go.Proofs.Ytlljmgphgmklcaa.PMail.flat l38_38)) := Lib.hid (by have es_ := set_self gt_36.out; have e0_ := flat_set Go.Proofs.Ytlljmgphgmklcaa.PMail.Mail.cells 4 (fun _ => rfl) l29_29 (k0) 3 (Go.Proofs.Ytlljmgphgmklcaa.PMail.Mail.mk t_36_leave t_36_from_ t_36_to_ t_36_arrive) (Go.Proofs.Ytlljmgphgmklcaa.PMail.Mail.mk t_36_leave t_36_from_ t_36_to_ t_31) (.int .i64 t_31) lt_36 (by decide) rfl; rw [es_] at e0_; have e_ : ([(k0 * 4 + 3, .int .i64 t_31)] : List (Nat × Value)).foldl (fun xs p => xs.set p.1 p.2) (Go.Proofs.Ytlljmgphgmklcaa.PMail.flat l29_29) = (Go.Proofs.Ytlljmgphgmklcaa.PMail.flat l38_38) := (by rw [← hl38_38]; show _ = List.flatMap Go.Proofs.Ytlljmgphgmklcaa.PMail.Mail.cells _; first | (rw [← e0_]; first | done | rfl)); rw [← hwl38_38, ← e_]; exact Sl38_38.out.1)
      have Gl38_38 : Hid (wl29_29.grownBy wl38_38 (Value.slice (some ⟨qt_9, 0, none⟩) a.length c0).ownBlock) := Lib.hid (by rw [← hwl38_38]; exact Sl38_38.out.2)
      have HBwl38_38 := Lib.hid (Aid.grown_tr HBwl29_29.out Gl38_38.out)
      have hhl38_38 := Lib.hid hl38_38
      clear hl38_38 Sl38_38
      clear Pl29_29 Gl38_38
      replace H := let_hid H
      obtain ⟨t_40, ht_40, H⟩ := H
      replace H := app_hid H
      go_wp2_with fail
      clear z0l11_11 ct_9_0 ct_9_1 ct_9_2 ct_9_3 z0l20_20 ct_18_0 ct_18_1 ct_18_2 ct_18_3 z0l29_29 ct_27_0 ct_27_1 ct_27_2 ct_27_3 z0l38_38 ct_36_0 ct_36_1 ct_36_2 ct_36_3
      go_roundg m0
      case measure => omega
      case rel => exact ⟨k0 + 1, _, _, by omega, by go_num, rfl, H, HBwl38_38, Pl38_38, Lib.hid (nl38_38.out)⟩
end Go.Proofs.Ytlljmgphgmklcaa.GlMarkMailS

/- loop.example/g01062/laws.markIntS as a plain function, and the contract of the program's: where the plain one has an answer, the program has it. Conditions: slices read as lists. -/
namespace Go.Proofs.Ytlljmgphgmklcaa.GlMarkIntS
set_option linter.unusedVariables false
set_option linter.unusedSimpArgs false
open Go.RowKit
open Go.Proofs.Ytlljmgphgmklcaa.Rowed Go.Proofs.Ytlljmgphgmklcaa.Turn Go.Proofs.Ytlljmgphgmklcaa.Aid Go.Proofs.Ytlljmgphgmklcaa.GoP Go.Proofs.Ytlljmgphgmklcaa.GoM

def l0  (k0 : Nat) (s : (List Int) × Int) (nx0 bk0 : (List Int) × Int → Option (Int × (List Int))) : Option (Int × (List Int)) :=
  unp2 s fun a_0l0 k_1l0 =>
  Option.bind (idx a_0l0 (k0 : Int)) fun (yt_9 : Int) =>
  letK (a_0l0.set k0 k_1l0) fun (l10_10 : (List Int)) =>
  letK (IntKind.i64.wrap (k_1l0 + 1)) fun (t_12 : Int) =>
  appK nx0 (l10_10, t_12)

def e0  (s : (List Int) × Int) : Option (Int × (List Int)) :=
  unp2 s fun a_0l0 k_1l0 =>
  some (k_1l0, a_0l0)

def P (a : (List Int)) (k_1 : Int) : Option (Int × (List Int)) :=
  cntK (l0 ) (a.length) 0 (a, k_1) (e0 )

set_option maxRecDepth 100000 in
set_option maxHeartbeats 2000000 in
theorem C (a : (List Int)) (k_1 : Int) (A0 : Option Addr) (c0 : Nat)  (b0 : Nat) (w : World) (M0 : Hid (w.ownsRow b0 3 1 (.slice A0 a.length c0) a.length (Go.Proofs.Ytlljmgphgmklcaa.HelpInt.iv a))) (N0 : Hid (a.length ≤ 9223372036854775807))  {r : Int} {l_ : (List Int)} (H : Hid (P a k_1 = some (r, l_))) :
    Calls Try.prog 38 #[.slice A0 a.length c0, .int .i64 k_1] w (fun e w' => e = .returned (.int .i64 r) ∧ w'.ownsRow b0 3 1 (.slice A0 a.length c0) a.length (Go.Proofs.Ytlljmgphgmklcaa.HelpInt.iv l_) ∧ l_.length = a.length ∧ w.grownBy w' (Value.slice A0 a.length c0).ownBlock) := by
  have HB := Lib.hid (Aid.grown_refl w (Value.slice A0 a.length c0).ownBlock)
  unfold P at H
  have N0o := N0.out
  go_enter Try.func38, Try.ntmps38
  go_wp2_with fail
  have hb_0 : a.length ≤ 9223372036854775807 := own_max M0.out
  go_wp2_with fail
  go_loopg [5, 1] (a.length) (fun m_ v5_ v1_ wr => ∃ (k0 : Nat) (a_0l0 : (List Int)) (k_1l0 : Int), k0 + m_ = a.length ∧ v5_ = .int .i64 (k0 : Int) ∧ v1_ = .int .i64 k_1l0 ∧ Hid (cntK (l0 ) m_ k0 (a_0l0, k_1l0) (e0 ) = some (r, l_)) ∧ Hid (w.grownBy wr (Value.slice A0 a.length c0).ownBlock) ∧ Hid (wr.ownsRow b0 3 1 (.slice A0 a.length c0) a.length (Go.Proofs.Ytlljmgphgmklcaa.HelpInt.iv a_0l0)) ∧ Hid (a_0l0.length = a.length))
  case atStart => exact ⟨0, _, _, by omega, rfl, rfl, H, HB, M0, Lib.hid (rfl)⟩
  case round =>
    obtain ⟨k0, a_0l0, k_1l0, hkm0, rfl, rfl, H, HBwr0, Oa_0l0, hna_0l0⟩ := hrel
    rename World => wr0
    cases gk with
    | zero =>
      obtain rfl : k0 = a.length := by omega
      have hc0 : decide (((a.length : Nat) : Int) < ((a.length : Nat) : Int)) = false := by simp
      replace H := cnt_zero H
      unfold e0 at H
      replace H := unp2_hid H
      cases ret_hid H
      go_wp2_with fail
      go_ret
      exact ⟨rfl, Oa_0l0.out, hna_0l0.out, HBwr0.out⟩
    | succ m0 =>
      have hlt0 : k0 < a.length := by omega
      have hc0 : decide ((k0 : Int) < ((a.length : Nat) : Int)) = true := by simp; omega
      replace H := cnt_succ H
      unfold l0 at H
      replace H := unp2_hid H
      replace H := idx_hid H
      obtain ⟨nt_9, yt_9, et_9, lt_9, gt_9, H⟩ := H
      obtain rfl : k0 = nt_9 := by omega
      clear et_9
      have hqt_9 := hna_0l0.out
      obtain ⟨qt_9, Qt_9⟩ := own_some Oa_0l0.out (by omega)
      subst Qt_9
      obtain ⟨ab_t_9, ao_t_9, zt_9, At_9, z_t_9, ct_9_0⟩ := Go.Proofs.Ytlljmgphgmklcaa.HelpInt.Ints.at_ (own_cells Oa_0l0.out) (k := k0) (by omega)
      obtain rfl := Option.some.inj (gt_9.out.symm.trans z_t_9)
      simp only [Option.some.injEq, Addr.mk.injEq] at At_9
      obtain ⟨rfl, rfl, _⟩ := At_9
      clear z_t_9
      simp only [Nat.zero_add] at ct_9_0
      have b0t_9 : (0 : Int) ≤ (k0 : Int) := by omega
      have b1t_9 : (k0 : Int) < ((a.length : Nat) : Int) := by omega
      have b2t_9 : ((k0 : Int)).toNat = k0 := by omega
      clear hqt_9
      replace H := let_hid H
      obtain ⟨l10_10, hl10_10, H⟩ := H
      try simp only [Int.toNat_natCast] at hl10_10
      obtain ⟨wl10_10, hwl10_10⟩ : ∃ x, (wr0).setCell ⟨qt_9, k0, none⟩ (.int .i64 k_1l0) = x := ⟨_, rfl⟩
      have z0l10_10 := Oa_0l0.out.frozenAt (k0)
      have Sl10_10 := Lib.hid (own_stores [(k0, .int .i64 k_1l0)] Oa_0l0.out)
      have nl10_10 : Hid (l10_10.length = a.length) := Lib.hid (by rw [← hl10_10, List.length_set]; exact hna_0l0.out)
      have Pl10_10 : Hid (wl10_10.ownsRow b0 3 1 (.slice (some ⟨qt_9, 0, none⟩) a.length c0) a.length (Go.Proofs.Ytlljmgphgmklcaa.HelpInt.iv l10_10)) := Lib.hid (by have e_ : ([(k0, .int .i64 k_1l0)] : List (Nat × Value)).foldl (fun xs p => xs.set p.1 p.2) (Go.Proofs.Ytlljmgphgmklcaa.HelpInt.iv a_0l0) = (Go.Proofs.Ytlljmgphgmklcaa.HelpInt.iv l10_10) := (by rw [← hl10_10]; first | done | simp [Go.Proofs.Ytlljmgphgmklcaa.HelpInt.iv, List.map_set]); rw [← hwl10_10, ← e_]; exact Sl10_10.out.1)
      have Gl10_10 : Hid (wr0.grownBy wl10_10 (Value.slice (some ⟨qt_9, 0, none⟩) a.length c0).ownBlock) := Lib.hid (by rw [← hwl10_10]; exact Sl10_10.out.2)
      have HBwl10_10 := Lib.hid (Aid.grown_tr HBwr0.out Gl10_10.out)
      have hhl10_10 := Lib.hid hl10_10
      clear hl10_10 Sl10_10
      clear Oa_0l0 Gl10_10
      replace H := let_hid H
      obtain ⟨t_12, ht_12, H⟩ := H
      replace H := app_hid H
      go_wp2_with fail
      clear z0l10_10 ct_9_0
      go_roundg m0
      case measure => omega
      case rel => exact ⟨k0 + 1, _, _, by omega, by go_num, rfl, H, HBwl10_10, Pl10_10, Lib.hid (nl10_10.out)⟩
end Go.Proofs.Ytlljmgphgmklcaa.GlMarkIntS

/- loop.example/g01062/laws.heldIntS as a plain function, and the contract of the program's: where the plain one has an answer, the program has it. Conditions: slices read as lists. -/
namespace Go.Proofs.Ytlljmgphgmklcaa.GlHeldIntS
set_option linter.unusedVariables false
set_option linter.unusedSimpArgs false
open Go.RowKit
open Go.Proofs.Ytlljmgphgmklcaa.Rowed Go.Proofs.Ytlljmgphgmklcaa.Turn Go.Proofs.Ytlljmgphgmklcaa.Aid Go.Proofs.Ytlljmgphgmklcaa.GoP Go.Proofs.Ytlljmgphgmklcaa.GoM

def l0 (a : (List Int)) (k0 : Nat) (s : Int) (nx0 bk0 : Int → Option (Int)) : Option (Int) :=
  letK s fun k_1l0 =>
  Option.bind (idx a (k0 : Int)) fun (yt_8 : Int) =>
  letK (yt_8 != k_1l0) fun (t_11 : Bool) =>
  iteK t_11
  (some (-1))
  (letK (IntKind.i64.wrap (k_1l0 + 1)) fun (t_14 : Int) =>
  appK nx0 (t_14))

def e0  (s : Int) : Option (Int) :=
  letK s fun k_1l0 =>
  some k_1l0

def P (a : (List Int)) (k_1 : Int) : Option (Int) :=
  cntK (l0 a) (a.length) 0 (k_1) (e0 )

set_option maxRecDepth 100000 in
set_option maxHeartbeats 2000000 in
theorem C (a : (List Int)) (k_1 : Int) (A0 : Option Addr) (c0 : Nat)  (w : World) (M0 : Hid (Cells w 1 A0 a.length (Go.Proofs.Ytlljmgphgmklcaa.HelpInt.iv a))) (N0 : Hid (a.length ≤ 9223372036854775807))  {r : Int} (H : Hid (P a k_1 = some r)) :
    Calls Try.prog 39 #[.slice A0 a.length c0, .int .i64 k_1] w (Gives (.int .i64 r) w) := by
  have HB := Lib.hid (Below.refl w.heap.size w)
  unfold P at H
  have N0o := N0.out
  go_enter Try.func39, Try.ntmps39
  go_wp2_with fail
  go_loopg [5, 1] (a.length) (fun m_ v5_ v1_ wr => ∃ (k0 : Nat) (k_1l0 : Int), k0 + m_ = a.length ∧ v5_ = .int .i64 (k0 : Int) ∧ v1_ = .int .i64 k_1l0 ∧ Hid (cntK (l0 a) m_ k0 (k_1l0) (e0 ) = some r) ∧ Hid (Below w.heap.size w wr))
  case atStart => exact ⟨0, _, by omega, rfl, rfl, H, HB⟩
  case round =>
    obtain ⟨k0, k_1l0, hkm0, rfl, rfl, H, HBwr0⟩ := hrel
    rename World => wr0
    cases gk with
    | zero =>
      obtain rfl : k0 = a.length := by omega
      have hc0 : decide (((a.length : Nat) : Int) < ((a.length : Nat) : Int)) = false := by simp
      replace H := cnt_zero H
      unfold e0 at H
      replace H := let_hid H
      obtain ⟨_, rfl, H⟩ := H
      obtain rfl := ret_hid H
      go_wp2_with fail
      go_ret
      exact ⟨rfl, HBwr0.out⟩
    | succ m0 =>
      have hlt0 : k0 < a.length := by omega
      have hc0 : decide ((k0 : Int) < ((a.length : Nat) : Int)) = true := by simp; omega
      replace H := cnt_succ H
      unfold l0 at H
      replace H := let_hid H
      obtain ⟨_, rfl, H⟩ := H
      replace H := idx_hid H
      obtain ⟨nt_8, yt_8, et_8, lt_8, gt_8, H⟩ := H
      obtain rfl : k0 = nt_8 := by omega
      clear et_8
      obtain ⟨ab_t_8, ao_t_8, zt_8, At_8, z_t_8, ct_8_0⟩ := Go.Proofs.Ytlljmgphgmklcaa.HelpInt.Ints.at_ M0.out lt_8
      obtain rfl := Option.some.inj (gt_8.out.symm.trans z_t_8)
      subst At_8
      have ltt_8 := cell_lt ct_8_0
      replace ct_8_0 := cell_below HBwr0.out ct_8_0
      clear z_t_8
      have b0t_8 : (0 : Int) ≤ (k0 : Int) := by omega
      have b1t_8 : (k0 : Int) < ((a.length : Nat) : Int) := by omega
      have b2t_8 : ((k0 : Int)).toNat = k0 := by omega
      replace H := let_hid H
      obtain ⟨t_11, ht_11, H⟩ := H
      cases t_11 with
      | false =>
        replace H := ite_f H
        replace H := let_hid H
        obtain ⟨t_14, ht_14, H⟩ := H
        replace H := app_hid H
        go_wp2_with fail
        go_roundg m0
        case measure => omega
        case rel => exact ⟨k0 + 1, _, by omega, by go_num, rfl, H, HBwr0⟩
      | true =>
        replace H := ite_t H
        obtain rfl := ret_hid H
        go_wp2_with fail
        go_ret
        exact ⟨rfl, HBwr0.out⟩
end Go.Proofs.Ytlljmgphgmklcaa.GlHeldIntS

/- Chapter 10: covers: the plain functions of the program and of the reference agree, and the laws answer true. (Q10Three) No condition but those of each theorem. -/
namespace Go.Proofs.Ytlljmgphgmklcaa.Q10Three
set_option linter.unusedVariables false
set_option linter.unusedSimpArgs false
open Go.RowKit
open Go.Proofs.Ytlljmgphgmklcaa.GoP Go.Proofs.Ytlljmgphgmklcaa.PlainStamp Go.Proofs.Ytlljmgphgmklcaa.QBase Go.Proofs.Ytlljmgphgmklcaa.QLoop Go.Proofs.Ytlljmgphgmklcaa.PCover Go.Proofs.Ytlljmgphgmklcaa.PRate Go.Proofs.Ytlljmgphgmklcaa.PMail Go.Proofs.Ytlljmgphgmklcaa.QHRateE Go.Proofs.Ytlljmgphgmklcaa.QHMailE Go.Proofs.Ytlljmgphgmklcaa.QHCoverE

theorem sz_three (rs : List Rate) (ms : List Mail) (l : List Cover) (hr : rs.length ≤ 9223372036854775807) (hm : ms.length ≤ 9223372036854775807) (hl : l.length ≤ 9223372036854775807) {R : Type} {no : R} {go : Int → Option R} {r : R} (hno : no = r) (hgo : ∀ v, 0 ≤ v → rs.length ≤ 1048576 → ms.length ≤ 1048576 → l.length ≤ 1048576 → go v = some r) :
    ((GlSzRateS.P rs 1048576).bind fun a => if decide (a < 0) = true then some no else (GlSzMailS.P ms a).bind fun b => if decide (b < 0) = true then some no else (GlSzCoverS.P l b).bind fun c => if decide (c < 0) = true then some no else go c) = some r := by
  subst hno
  rw [QHRateE.szF rs _ (by omega) (by omega) hr, Option.bind_some]
  by_cases h1 : (rs.length : Int) ≤ 1048576
  · rw [if_pos h1, if_neg (by simp; omega), QHMailE.szF ms _ (by omega) (by omega) hm, Option.bind_some]
    by_cases h2 : (ms.length : Int) ≤ 1048576 - (rs.length : Int)
    · rw [if_pos h2, if_neg (by simp; omega), QHCoverE.szF l _ (by omega) (by omega) hl, Option.bind_some]
      by_cases h3 : (l.length : Int) ≤ 1048576 - (rs.length : Int) - (ms.length : Int)
      · rw [if_pos h3, if_neg (by simp; omega)]
        exact hgo _ (by omega) (by omega) (by omega) (by omega)
      · rw [if_neg h3, if_pos (by simp)]
    · rw [if_neg h2, if_pos (by simp)]
  · rw [if_neg h1, if_pos (by simp)]
end Go.Proofs.Ytlljmgphgmklcaa.Q10Three

/- The laws' helper that marks a slice of Mail as a plain function. No condition. -/
namespace Go.Proofs.Ytlljmgphgmklcaa.QHMail
set_option linter.unusedVariables false
set_option linter.unusedSimpArgs false
open Go.RowKit
open Go.Proofs.Ytlljmgphgmklcaa.GoP Go.Proofs.Ytlljmgphgmklcaa.QBase Go.Proofs.Ytlljmgphgmklcaa.QLoop Go.Proofs.Ytlljmgphgmklcaa.PMail 
theorem set_at {α : Type} {l : List α} {k : Nat} (x : α) (h : k < l.length) : idx (l.set k x) (k : Int) = some x := by rw [idx_nat, List.getElem?_set_self h]
theorem markF (l : List Mail) (k0 : Int) (hk0 : 1 ≤ k0) (hk1 : k0 ≤ 100000000) (hl : l.length ≤ 1048576) : ∃ v l', GlMarkMailS.P l k0 = some (v, l') ∧ v = k0 + 4 * (l.length : Int) := by
  obtain ⟨⟨v, l'⟩, h, hv⟩ : ∃ r : Int × List Mail, GlMarkMailS.P l k0 = some r ∧ r.1 = k0 + 4 * (l.length : Int) := by
    simp only [GlMarkMailS.P]
    refine cnt_ex (n := l.length) (Q := fun r : Int × List Mail => r.1 = k0 + 4 * (l.length : Int)) (fun k (s : List Mail × Int) => s.1.length = l.length ∧ s.2 = 4 * (k : Int) + k0) ?_ ?_ l.length 0 (l, k0) (by omega) ⟨rfl, by simp⟩
    · rintro k ⟨a, b⟩ nx hk ⟨h1, h2⟩ hn
      dsimp only at h1 h2
      obtain ⟨x, hx, hi⟩ := at_lt (l := a) (k := k) (by omega)
      have ha : k < a.length := by omega
      have w1 : IntKind.i64.wrap (b + 1) = b + 1 := wrap_in (by omega) (by omega)
      have w2 : IntKind.i64.wrap (b + 1 + 1) = b + 1 + 1 := wrap_in (by omega) (by omega)
      have w3 : IntKind.i64.wrap (b + 1 + 1 + 1) = b + 1 + 1 + 1 := wrap_in (by omega) (by omega)
      have w4 : IntKind.i64.wrap (b + 1 + 1 + 1 + 1) = b + 1 + 1 + 1 + 1 := wrap_in (by omega) (by omega)
      simp (disch := simp [ha]) only [GlMarkMailS.l0, unp2, hi, set_at, Option.bind_some, unMail, letK, appK, w1, w2, w3, w4]
      exact hn _ ⟨by simpa using h1, by dsimp only; omega⟩
    · rintro ⟨a, b⟩ ⟨h1, h2⟩
      exact ⟨_, rfl, by dsimp only at h2 ⊢; omega⟩
  exact ⟨v, l', h, hv⟩
theorem markS (l : List Mail) (hl : l.length ≤ 1048576) : ∃ v l', GlMarkMailS.P l 1 = some (v, l') ∧ 0 ≤ v := by
  obtain ⟨v, l', h, hv⟩ := markF l 1 (by omega) (by omega) hl
  exact ⟨v, l', h, by omega⟩
end Go.Proofs.Ytlljmgphgmklcaa.QHMail

/- The laws' helpers on slices of ints as plain functions: equal, marked, held. Condition: at most 2^40 numbers. -/
namespace Go.Proofs.Ytlljmgphgmklcaa.QInt
set_option linter.unusedVariables false
set_option linter.unusedSimpArgs false
open Go.RowKit
open Go.Proofs.Ytlljmgphgmklcaa.GoP Go.Proofs.Ytlljmgphgmklcaa.QBase Go.Proofs.Ytlljmgphgmklcaa.QLoop

theorem eqI (l : List Int) : GlEqIntS.P l l = some true := by
  simp only [GlEqIntS.P, letK, iteK_if]
  rw [if_neg (by simp)]
  refine cnt_is true (fun _ _ => True) ?_ (fun s _ => rfl) () trivial
  intro k s nx hk _ hn
  obtain ⟨x, hx, hi⟩ := at_lt (l := l) (k := k) hk
  simp only [GlEqIntS.l0, hi, Option.bind_some, letK, appK, iteK_if]
  rw [if_neg (by simp)]
  exact hn () trivial
/-- 1, 2, 3 .. -/
def ups (n : Nat) : List Int := (List.range n).map (fun i : Nat => (i : Int) + 1)
theorem ups_at {n k : Nat} (h : k < n) : (ups n)[k]? = some ((k : Int) + 1) := by unfold ups; simp [h]
theorem ups_len (n : Nat) : (ups n).length = n := by simp [ups]
theorem markI (l : List Int) (hl : l.length ≤ 1099511627776) : GlMarkIntS.P l 1 = some ((l.length : Int) + 1, ups l.length) := by
  simp only [GlMarkIntS.P]
  refine cnt_is _ (fun k s => s.1.length = l.length ∧ s.2 = (k : Int) + 1 ∧ ∀ i, i < k → s.1[i]? = some ((i : Int) + 1)) ?_ ?_ (l, 1) ⟨rfl, rfl, fun i hi => by omega⟩
  · rintro k ⟨a, b⟩ nx hk ⟨h1, h2, h3⟩ hn
    dsimp only at h1 h2 h3
    obtain ⟨x, hx, hi⟩ := at_lt (l := a) (k := k) (by omega)
    simp only [GlMarkIntS.l0, unp2, hi, Option.bind_some, letK, appK]
    rw [wrap_in (by omega) (by omega)]
    refine hn _ ⟨by simpa using h1, by dsimp only; omega, fun i hi2 => ?_⟩
    dsimp only
    by_cases he : i = k
    · subst he; rw [List.getElem?_set_self (by omega), h2]
    · rw [List.getElem?_set_ne (by omega)]; exact h3 i (by omega)
  · rintro ⟨a, b⟩ ⟨h1, h2, h3⟩
    dsimp only at h1 h2 h3
    have : a = ups l.length := by
      apply List.ext_getElem?
      intro i
      by_cases hi : i < l.length
      · rw [h3 i hi, ups_at hi]
      · rw [List.getElem?_eq_none (by omega), List.getElem?_eq_none (by rw [ups_len]; omega)]
    simp only [GlMarkIntS.e0, unp2]
    rw [this, h2]
theorem heldI (n : Nat) (hl : n ≤ 1099511627776) : GlHeldIntS.P (ups n) 1 = some ((n : Int) + 1) := by
  simp only [GlHeldIntS.P]
  refine cnt_is _ (fun k s => s = (k : Int) + 1) ?_ ?_ 1 rfl
  · intro k s nx hk hI hn
    rw [ups_len] at hk
    have hi : idx (ups n) (k : Int) = some ((k : Int) + 1) := by rw [idx_nat, ups_at hk]
    simp only [GlHeldIntS.l0, hi, Option.bind_some, letK, appK, iteK_if]
    rw [if_neg (by simp [hI]), wrap_in (by omega) (by omega)]
    exact hn _ (by omega)
  · intro s hI
    simp only [GlHeldIntS.e0, letK]
    rw [hI, ups_len]
/-- a loop that gathers -/
theorem gather {α β R : Type} {l : List α} {p : α → Bool} {g : α → β} {f : Nat → List β → (List β → Option R) → (List β → Option R) → Option R} {fin : List β → Option R} (hl : l.length ≤ 1099511627776)
    (step : ∀ k nx x s, l[k]? = some x → s.length ≤ 1099511627776 → f k s nx fin = nx (if p x then s ++ [g x] else s)) : cntK f l.length 0 [] fin = fin ((l.filter p).map g) := by
  have key : ∀ m k, k + m = l.length → cntK f m k (((l.take k).filter p).map g) fin = fin ((l.filter p).map g) := by
    intro m
    induction m with
    | zero => intro k hk; obtain rfl : k = l.length := by omega
              rw [List.take_of_length_le (Nat.le_refl _)]; rfl
    | succ m ih =>
      intro k hk
      obtain ⟨x, hx, _⟩ := at_lt (l := l) (k := k) (by omega)
      show f k _ _ fin = _
      have hle : (((l.take k).filter p).map g).length ≤ 1099511627776 := by
        rw [List.length_map]
        have := List.length_filter_le p (l.take k)
        rw [List.length_take] at this
        omega
      rw [step k _ x _ hx hle, ← ih (k + 1) (by omega), take_next hx, List.filter_append, List.map_append]
      cases hp : p x <;> simp [List.filter, hp]
  exact key l.length 0 (by omega)
end Go.Proofs.Ytlljmgphgmklcaa.QInt

/- loop.example/g01062/impl.latestMinutes as a plain function, and the contract of the program's: where the plain one has an answer, the program has it. Conditions: slices read as lists. -/
namespace Go.Proofs.Ytlljmgphgmklcaa.GiLatestMinutes
set_option linter.unusedVariables false
set_option linter.unusedSimpArgs false
open Go.RowKit
open Go.Proofs.Ytlljmgphgmklcaa.Rowed Go.Proofs.Ytlljmgphgmklcaa.Turn Go.Proofs.Ytlljmgphgmklcaa.Aid Go.Proofs.Ytlljmgphgmklcaa.GoP Go.Proofs.Ytlljmgphgmklcaa.GoM

def l0 (list : (List Go.Proofs.Ytlljmgphgmklcaa.PMail.Mail)) (s : (List Int) × Int) (nx0 bk0 : (List Int) × Int → Option (Go.Proofs.Ytlljmgphgmklcaa.PIntA10.IntA10)) : Option (Go.Proofs.Ytlljmgphgmklcaa.PIntA10.IntA10) :=
  unp2 s fun latest_7l0 i_8l0 =>
  letK (decide (0 ≤ i_8l0)) fun (t_13 : Bool) =>
  iteK t_13
  (Option.bind (idx list i_8l0) fun (yt_16 : Go.Proofs.Ytlljmgphgmklcaa.PMail.Mail) =>
  unMail yt_16 fun (t_16_leave : Int) (t_16_from_ : Int) (t_16_to_ : Int) (t_16_arrive : Int) =>
  Option.bind (idx latest_7l0 t_16_to_) fun (yt_24 : Int) =>
  letK (decide (t_16_arrive ≤ yt_24)) fun (t_26 : Bool) =>
  iteK t_26
  (Option.bind (idx latest_7l0 t_16_from_) fun (yt_31 : Int) =>
  letK (max yt_31 t_16_leave) fun (t_35 : Int) =>
  Option.bind (idx latest_7l0 t_16_from_) fun (yt_36 : Int) =>
  letK (latest_7l0.set (t_16_from_).toNat t_35) fun (l37_37 : (List Int)) =>
  letK (IntKind.i64.wrap (i_8l0 - 1)) fun (t_39 : Int) =>
  appK nx0 (l37_37, t_39))
  (letK (IntKind.i64.wrap (i_8l0 - 1)) fun (t_39 : Int) =>
  appK nx0 (latest_7l0, t_39)))
  (appK bk0 (latest_7l0, i_8l0))

def e0  (s : (List Int) × Int) : Option (Go.Proofs.Ytlljmgphgmklcaa.PIntA10.IntA10) :=
  unp2 s fun latest_7l0 i_8l0 =>
  some (Go.Proofs.Ytlljmgphgmklcaa.PIntA10.IntA10.mk (Go.Proofs.Ytlljmgphgmklcaa.GoA.nth latest_7l0 0) (Go.Proofs.Ytlljmgphgmklcaa.GoA.nth latest_7l0 1) (Go.Proofs.Ytlljmgphgmklcaa.GoA.nth latest_7l0 2) (Go.Proofs.Ytlljmgphgmklcaa.GoA.nth latest_7l0 3) (Go.Proofs.Ytlljmgphgmklcaa.GoA.nth latest_7l0 4) (Go.Proofs.Ytlljmgphgmklcaa.GoA.nth latest_7l0 5) (Go.Proofs.Ytlljmgphgmklcaa.GoA.nth latest_7l0 6) (Go.Proofs.Ytlljmgphgmklcaa.GoA.nth latest_7l0 7) (Go.Proofs.Ytlljmgphgmklcaa.GoA.nth latest_7l0 8) (Go.Proofs.Ytlljmgphgmklcaa.GoA.nth latest_7l0 9))

def P (fuel : Nat) (list : (List Go.Proofs.Ytlljmgphgmklcaa.PMail.Mail)) (to_1 : Int) (by_2 : Int) : Option (Go.Proofs.Ytlljmgphgmklcaa.PIntA10.IntA10) :=
  Option.bind (Go.Proofs.Ytlljmgphgmklcaa.GiFilledWith.P (-1)) fun (t_1 : Go.Proofs.Ytlljmgphgmklcaa.PIntA10.IntA10) =>
  unIntA10 t_1 fun (t_1_x0 : Int) (t_1_x1 : Int) (t_1_x2 : Int) (t_1_x3 : Int) (t_1_x4 : Int) (t_1_x5 : Int) (t_1_x6 : Int) (t_1_x7 : Int) (t_1_x8 : Int) (t_1_x9 : Int) =>
  letK ([t_1_x0, t_1_x1, t_1_x2, t_1_x3, t_1_x4, t_1_x5, t_1_x6, t_1_x7, t_1_x8, t_1_x9]) fun (vlatest_2 : (List Int)) =>
  Option.bind (idx vlatest_2 to_1) fun (yt_6 : Int) =>
  letK (vlatest_2.set (to_1).toNat by_2) fun (l7_7 : (List Int)) =>
  letK (IntKind.i64.wrap ((list.length : Int) - 1)) fun (t_10 : Int) =>
  loopK (l0 list) fuel (l7_7, t_10) (e0 )

set_option maxRecDepth 100000 in
set_option maxHeartbeats 2000000 in
theorem C (fuel : Nat) (list : (List Go.Proofs.Ytlljmgphgmklcaa.PMail.Mail)) (to_1 : Int) (by_2 : Int) (A0 : Option Addr) (c0 : Nat)  (w : World) (M0 : Hid (Cells w 4 A0 list.length (Go.Proofs.Ytlljmgphgmklcaa.PMail.flat list))) (N0 : Hid (list.length ≤ 9223372036854775807))  {r : Go.Proofs.Ytlljmgphgmklcaa.PIntA10.IntA10} (H : Hid (P fuel list to_1 by_2 = some r)) :
    Calls Try.prog 108 #[.slice A0 list.length c0, .int .i64 to_1, .int .i64 by_2] w (Gives ((Go.Proofs.Ytlljmgphgmklcaa.PIntA10.IntA10.val r)) w) := by
  have HB := Lib.hid (Below.refl w.heap.size w)
  unfold P at H
  have N0o := N0.out
  go_enter Try.func108, Try.ntmps108
  obtain ⟨w_t_0, hw_t_0⟩ : ∃ x, w.alloc (.cells #[.int .i64 0, .int .i64 0, .int .i64 0, .int .i64 0, .int .i64 0, .int .i64 0, .int .i64 0, .int .i64 0, .int .i64 0, .int .i64 0] 121) = x := ⟨_, rfl⟩
  have bw_t_0 : Below w.heap.size w w_t_0 := by rw [← hw_t_0]; exact (Below.refl _ _).alloc (Nat.le_refl _) _
  have HBw_t_0 := Lib.hid (Below.step HB.out bw_t_0)
  clear bw_t_0
  have kt_0_0 : w_t_0.cell? ⟨w.heap.size, 0, none⟩ = some (.int .i64 0) := by rw [← hw_t_0]; exact box_new _ _ _ 0 _ rfl
  have kt_0_1 : w_t_0.cell? ⟨w.heap.size, 1, none⟩ = some (.int .i64 0) := by rw [← hw_t_0]; exact box_new _ _ _ 1 _ rfl
  have kt_0_2 : w_t_0.cell? ⟨w.heap.size, 2, none⟩ = some (.int .i64 0) := by rw [← hw_t_0]; exact box_new _ _ _ 2 _ rfl
  have kt_0_3 : w_t_0.cell? ⟨w.heap.size, 3, none⟩ = some (.int .i64 0) := by rw [← hw_t_0]; exact box_new _ _ _ 3 _ rfl
  have kt_0_4 : w_t_0.cell? ⟨w.heap.size, 4, none⟩ = some (.int .i64 0) := by rw [← hw_t_0]; exact box_new _ _ _ 4 _ rfl
  have kt_0_5 : w_t_0.cell? ⟨w.heap.size, 5, none⟩ = some (.int .i64 0) := by rw [← hw_t_0]; exact box_new _ _ _ 5 _ rfl
  have kt_0_6 : w_t_0.cell? ⟨w.heap.size, 6, none⟩ = some (.int .i64 0) := by rw [← hw_t_0]; exact box_new _ _ _ 6 _ rfl
  have kt_0_7 : w_t_0.cell? ⟨w.heap.size, 7, none⟩ = some (.int .i64 0) := by rw [← hw_t_0]; exact box_new _ _ _ 7 _ rfl
  have kt_0_8 : w_t_0.cell? ⟨w.heap.size, 8, none⟩ = some (.int .i64 0) := by rw [← hw_t_0]; exact box_new _ _ _ 8 _ rfl
  have kt_0_9 : w_t_0.cell? ⟨w.heap.size, 9, none⟩ = some (.int .i64 0) := by rw [← hw_t_0]; exact box_new _ _ _ 9 _ rfl
  have Ot_0 : Hid (w_t_0.ownsRow w.heap.size 121 10 (.slice (some ⟨w.heap.size, 0, none⟩) 1 1) 1 [.int .i64 0, .int .i64 0, .int .i64 0, .int .i64 0, .int .i64 0, .int .i64 0, .int .i64 0, .int .i64 0, .int .i64 0, .int .i64 0]) := Lib.hid (by rw [← hw_t_0]; exact own_laid (n := 1) HB.out.size rfl rfl (by unfold maxLen; omega))
  replace H := bind_hid H
  obtain ⟨t_1, qt_1, H⟩ := H
  obtain ⟨t_1_x0, t_1_x1, t_1_x2, t_1_x3, t_1_x4, t_1_x5, t_1_x6, t_1_x7, t_1_x8, t_1_x9⟩ := t_1
  replace H := unIntA10_hid H
  go_wp2_with fail
  go_at_call 154
  refine (Go.Proofs.Ytlljmgphgmklcaa.GiFilledWith.C ((-1))  _    qt_1).mono ?_
  rintro e_t_1 wt_1 ⟨rfl, bt_1⟩
  unfold Go.Proofs.Ytlljmgphgmklcaa.PIntA10.IntA10.val
  have HBwt_1 := Lib.hid (Below.step HBw_t_0.out bt_1)
  replace kt_0_0 := cell_below bt_1 kt_0_0
  replace kt_0_1 := cell_below bt_1 kt_0_1
  replace kt_0_2 := cell_below bt_1 kt_0_2
  replace kt_0_3 := cell_below bt_1 kt_0_3
  replace kt_0_4 := cell_below bt_1 kt_0_4
  replace kt_0_5 := cell_below bt_1 kt_0_5
  replace kt_0_6 := cell_below bt_1 kt_0_6
  replace kt_0_7 := cell_below bt_1 kt_0_7
  replace kt_0_8 := cell_below bt_1 kt_0_8
  replace kt_0_9 := cell_below bt_1 kt_0_9
  replace Ot_0 := Lib.hid (own_below Ot_0.out bt_1)
  clear bt_1
  replace H := let_hid H
  obtain ⟨vlatest_2, hvlatest_2, H⟩ := H
  obtain ⟨w_latest_2, hw_latest_2⟩ : ∃ x, wt_1.alloc (.cells #[.int .i64 t_1_x0, .int .i64 t_1_x1, .int .i64 t_1_x2, .int .i64 t_1_x3, .int .i64 t_1_x4, .int .i64 t_1_x5, .int .i64 t_1_x6, .int .i64 t_1_x7, .int .i64 t_1_x8, .int .i64 t_1_x9] 121) = x := ⟨_, rfl⟩
  have bw_latest_2 : Below wt_1.heap.size wt_1 w_latest_2 := by rw [← hw_latest_2]; exact (Below.refl _ _).alloc (Nat.le_refl _) _
  have hs_latest_2 := HBwt_1.out.size
  have nlatest_2 : vlatest_2.length = 10 := by rw [← hvlatest_2]; rfl
  have Olatest_2 : Hid (w_latest_2.ownsRow w.heap.size 121 1 (.slice (some ⟨wt_1.heap.size, 0, none⟩) 10 10) 10 (Go.Proofs.Ytlljmgphgmklcaa.HelpInt.iv vlatest_2)) := by
    rw [← hw_latest_2, ← hvlatest_2]
    have e_ : ([.int .i64 t_1_x0, .int .i64 t_1_x1, .int .i64 t_1_x2, .int .i64 t_1_x3, .int .i64 t_1_x4, .int .i64 t_1_x5, .int .i64 t_1_x6, .int .i64 t_1_x7, .int .i64 t_1_x8, .int .i64 t_1_x9] : List Value) = Go.Proofs.Ytlljmgphgmklcaa.HelpInt.iv [t_1_x0, t_1_x1, t_1_x2, t_1_x3, t_1_x4, t_1_x5, t_1_x6, t_1_x7, t_1_x8, t_1_x9] := rfl
    exact Lib.hid (own_laid (n := 10) hs_latest_2 e_ rfl (by unfold maxLen; omega))
  clear hs_latest_2
  have hhlatest_2 := Lib.hid hvlatest_2
  clear hvlatest_2
  replace nlatest_2 := Lib.hid nlatest_2
  have Dlatest_2_t_0 := Lib.hid (apart_box kt_0_0)
  have HBw_latest_2 := Lib.hid (Below.step HBwt_1.out bw_latest_2)
  have kt_0_0__585 := cell_below bw_latest_2 kt_0_0
  have kt_0_1__586 := cell_below bw_latest_2 kt_0_1
  have kt_0_2__587 := cell_below bw_latest_2 kt_0_2
  have kt_0_3__588 := cell_below bw_latest_2 kt_0_3
  have kt_0_4__589 := cell_below bw_latest_2 kt_0_4
  have kt_0_5__590 := cell_below bw_latest_2 kt_0_5
  have kt_0_6__591 := cell_below bw_latest_2 kt_0_6
  have kt_0_7__592 := cell_below bw_latest_2 kt_0_7
  have kt_0_8__593 := cell_below bw_latest_2 kt_0_8
  have kt_0_9__594 := cell_below bw_latest_2 kt_0_9
  replace Ot_0 := Lib.hid (own_below Ot_0.out bw_latest_2)
  clear bw_latest_2
  replace H := idx_hid H
  obtain ⟨nt_6, yt_6, et_6, lt_6, gt_6, H⟩ := H
  subst et_6
  have hqt_6 := nlatest_2.out
  obtain ⟨ab_t_6, ao_t_6, zt_6, At_6, z_t_6, ct_6_0⟩ := Go.Proofs.Ytlljmgphgmklcaa.HelpInt.Ints.at_ (own_cells Olatest_2.out) (k := nt_6) (by omega)
  obtain rfl := Option.some.inj (gt_6.out.symm.trans z_t_6)
  simp only [Option.some.injEq, Addr.mk.injEq] at At_6
  obtain ⟨rfl, rfl, _⟩ := At_6
  clear z_t_6
  simp only [Nat.zero_add] at ct_6_0
  have b0t_6 : (0 : Int) ≤ (nt_6 : Int) := by omega
  have b1t_6 : (nt_6 : Int) < ((10 : Nat) : Int) := by omega
  have b2t_6 : ((nt_6 : Int)).toNat = nt_6 := by omega
  clear hqt_6
  have b3t_6 : nt_6 < 10 := by have h_ := lt_6; have hn_ := nlatest_2.out; omega
  have b4t_6 : (nt_6 : Int) < (10 : Int) := by omega
  replace H := let_hid H
  obtain ⟨l7_7, hl7_7, H⟩ := H
  try simp only [Int.toNat_natCast] at hl7_7
  obtain ⟨wl7_7, hwl7_7⟩ : ∃ x, (w_latest_2).setCell ⟨wt_1.heap.size, nt_6, none⟩ (.int .i64 by_2) = x := ⟨_, rfl⟩
  have z0l7_7 := Olatest_2.out.frozenAt (nt_6)
  have Sl7_7 := Lib.hid (own_stores [(nt_6, .int .i64 by_2)] Olatest_2.out)
  have nl7_7 : Hid (l7_7.length = 10) := Lib.hid (by rw [← hl7_7, List.length_set]; exact nlatest_2.out)
  have Pl7_7 : Hid (wl7_7.ownsRow w.heap.size 121 1 (.slice (some ⟨wt_1.heap.size, 0, none⟩) 10 10) 10 (Go.Proofs.Ytlljmgphgmklcaa.HelpInt.iv l7_7)) := Lib.hid (by have e_ : ([(nt_6, .int .i64 by_2)] : List (Nat × Value)).foldl (fun xs p => xs.set p.1 p.2) (Go.Proofs.Ytlljmgphgmklcaa.HelpInt.iv vlatest_2) = (Go.Proofs.Ytlljmgphgmklcaa.HelpInt.iv l7_7) := (by rw [← hl7_7]; first | done | simp [Go.Proofs.Ytlljmgphgmklcaa.HelpInt.iv, List.map_set]); rw [← hwl7_7, ← e_]; exact Sl7_7.out.1)
  have Gl7_7 : Hid (w_latest_2.grownBy wl7_7 (Value.slice (some ⟨wt_1.heap.size, 0, none⟩) 10 10).ownBlock) := Lib.hid (by rw [← hwl7_7]; exact Sl7_7.out.2)
  have HBwl7_7 := Lib.hid (HBw_latest_2.out.grown Gl7_7.out HBw_latest_2.out.size (fun q hq => (Olatest_2.out.lt q hq).1))
  have hhl7_7 := Lib.hid hl7_7
  clear hl7_7 Sl7_7
  have kt_0_0__595 := cell_other kt_0_0__585 Gl7_7.out Dlatest_2_t_0.out
  have kt_0_1__596 := cell_other kt_0_1__586 Gl7_7.out Dlatest_2_t_0.out
  have kt_0_2__597 := cell_other kt_0_2__587 Gl7_7.out Dlatest_2_t_0.out
  have kt_0_3__598 := cell_other kt_0_3__588 Gl7_7.out Dlatest_2_t_0.out
  have kt_0_4__599 := cell_other kt_0_4__589 Gl7_7.out Dlatest_2_t_0.out
  have kt_0_5__600 := cell_other kt_0_5__590 Gl7_7.out Dlatest_2_t_0.out
  have kt_0_6__601 := cell_other kt_0_6__591 Gl7_7.out Dlatest_2_t_0.out
  have kt_0_7__602 := cell_other kt_0_7__592 Gl7_7.out Dlatest_2_t_0.out
  have kt_0_8__603 := cell_other kt_0_8__593 Gl7_7.out Dlatest_2_t_0.out
  have kt_0_9__604 := cell_other kt_0_9__594 Gl7_7.out Dlatest_2_t_0.out
  replace Ot_0 := Lib.hid (own_other Ot_0.out Gl7_7.out Dlatest_2_t_0.out)
  clear Olatest_2 Gl7_7
  replace H := let_hid H
  obtain ⟨t_10, ht_10, H⟩ := H
  try have hv_t_10 : (list.length : Int) - 1 = t_10 := by rw [← ht_10]; exact (IntWalk.i64_in _ (by omega)).symm
  try have hv2_t_10 : IntKind.i64.wrap t_10 = t_10 := by rw [← hv_t_10]; exact IntWalk.i64_in _ (by omega)
  go_wp2_with fail
  clear kt_0_0 kt_0_1 kt_0_2 kt_0_3 kt_0_4 kt_0_5 kt_0_6 kt_0_7 kt_0_8 kt_0_9 z0l7_7 kt_0_0__585 kt_0_1__586 kt_0_2__587 kt_0_3__588 kt_0_4__589 kt_0_5__590 kt_0_6__591 kt_0_7__592 kt_0_8__593 kt_0_9__594 ct_6_0
  go_wp2_with fail
  go_loopg [8] (fuel) (fun m_ v8_ wr => ∃ (latest_7l0 : (List Int)) (i_8l0 : Int), v8_ = .int .i64 i_8l0 ∧ Hid (loopK (l0 list) m_ (latest_7l0, i_8l0) (e0 ) = some r) ∧ Hid (Below w.heap.size w wr) ∧ wr.cell? ⟨w.heap.size, 0, none⟩ = some (.int .i64 0) ∧ wr.cell? ⟨w.heap.size, 1, none⟩ = some (.int .i64 0) ∧ wr.cell? ⟨w.heap.size, 2, none⟩ = some (.int .i64 0) ∧ wr.cell? ⟨w.heap.size, 3, none⟩ = some (.int .i64 0) ∧ wr.cell? ⟨w.heap.size, 4, none⟩ = some (.int .i64 0) ∧ wr.cell? ⟨w.heap.size, 5, none⟩ = some (.int .i64 0) ∧ wr.cell? ⟨w.heap.size, 6, none⟩ = some (.int .i64 0) ∧ wr.cell? ⟨w.heap.size, 7, none⟩ = some (.int .i64 0) ∧ wr.cell? ⟨w.heap.size, 8, none⟩ = some (.int .i64 0) ∧ wr.cell? ⟨w.heap.size, 9, none⟩ = some (.int .i64 0) ∧ Hid (wr.ownsRow w.heap.size 121 10 (.slice (some ⟨w.heap.size, 0, none⟩) 1 1) 1 [.int .i64 0, .int .i64 0, .int .i64 0, .int .i64 0, .int .i64 0, .int .i64 0, .int .i64 0, .int .i64 0, .int .i64 0, .int .i64 0]) ∧ Hid (wr.ownsRow w.heap.size 121 1 (.slice (some ⟨wt_1.heap.size, 0, none⟩) 10 10) 10 (Go.Proofs.Ytlljmgphgmklcaa.HelpInt.iv latest_7l0)) ∧ Hid (latest_7l0.length = 10) ∧ Hid (Apart (some ⟨wt_1.heap.size, 0, none⟩) (some ⟨w.heap.size, 0, none⟩)))
  case atStart => exact ⟨_, _, rfl, H, HBwl7_7, kt_0_0__595, kt_0_1__596, kt_0_2__597, kt_0_3__598, kt_0_4__599, kt_0_5__600, kt_0_6__601, kt_0_7__602, kt_0_8__603, kt_0_9__604, Ot_0, Pl7_7, Lib.hid (nl7_7.out), Lib.hid Dlatest_2_t_0.out⟩
  case round =>
    obtain ⟨latest_7l0, i_8l0, rfl, H, HBwr0, kt_0_0__595, kt_0_1__596, kt_0_2__597, kt_0_3__598, kt_0_4__599, kt_0_5__600, kt_0_6__601, kt_0_7__602, kt_0_8__603, kt_0_9__604, Ot_0, Olatest_7l0, hnlatest_7l0, Dlatest_7l0_t_0⟩ := hrel
    rename World => wr0
    cases gk with
    | zero => exact (loop_zero H).elim
    | succ m0 =>
      replace H := loop_succ H
      unfold l0 at H
      replace H := unp2_hid H
      replace H := let_hid H
      obtain ⟨t_13, ht_13, H⟩ := H
      cases t_13 with
      | false =>
        replace H := ite_f H
        replace H := app_hid H
        unfold e0 at H
        replace H := unp2_hid H
        have ka_605 : wr0.cell? ⟨wt_1.heap.size, 0, none⟩ = some (.int .i64 (Go.Proofs.Ytlljmgphgmklcaa.GoA.nth latest_7l0 0)) := Go.Proofs.Ytlljmgphgmklcaa.GoA.row_at Olatest_7l0.out hnlatest_7l0.out 0 (by omega)
        have ka_606 : wr0.cell? ⟨wt_1.heap.size, 1, none⟩ = some (.int .i64 (Go.Proofs.Ytlljmgphgmklcaa.GoA.nth latest_7l0 1)) := Go.Proofs.Ytlljmgphgmklcaa.GoA.row_at Olatest_7l0.out hnlatest_7l0.out 1 (by omega)
        have ka_607 : wr0.cell? ⟨wt_1.heap.size, 2, none⟩ = some (.int .i64 (Go.Proofs.Ytlljmgphgmklcaa.GoA.nth latest_7l0 2)) := Go.Proofs.Ytlljmgphgmklcaa.GoA.row_at Olatest_7l0.out hnlatest_7l0.out 2 (by omega)
        have ka_608 : wr0.cell? ⟨wt_1.heap.size, 3, none⟩ = some (.int .i64 (Go.Proofs.Ytlljmgphgmklcaa.GoA.nth latest_7l0 3)) := Go.Proofs.Ytlljmgphgmklcaa.GoA.row_at Olatest_7l0.out hnlatest_7l0.out 3 (by omega)
        have ka_609 : wr0.cell? ⟨wt_1.heap.size, 4, none⟩ = some (.int .i64 (Go.Proofs.Ytlljmgphgmklcaa.GoA.nth latest_7l0 4)) := Go.Proofs.Ytlljmgphgmklcaa.GoA.row_at Olatest_7l0.out hnlatest_7l0.out 4 (by omega)
        have ka_610 : wr0.cell? ⟨wt_1.heap.size, 5, none⟩ = some (.int .i64 (Go.Proofs.Ytlljmgphgmklcaa.GoA.nth latest_7l0 5)) := Go.Proofs.Ytlljmgphgmklcaa.GoA.row_at Olatest_7l0.out hnlatest_7l0.out 5 (by omega)
        have ka_611 : wr0.cell? ⟨wt_1.heap.size, 6, none⟩ = some (.int .i64 (Go.Proofs.Ytlljmgphgmklcaa.GoA.nth latest_7l0 6)) := Go.Proofs.Ytlljmgphgmklcaa.GoA.row_at Olatest_7l0.out hnlatest_7l0.out 6 (by omega)
        have ka_612 : wr0.cell? ⟨wt_1.heap.size, 7, none⟩ = some (.int .i64 (Go.Proofs.Ytlljmgphgmklcaa.GoA.nth latest_7l0 7)) := Go.Proofs.Ytlljmgphgmklcaa.GoA.row_at Olatest_7l0.out hnlatest_7l0.out 7 (by omega)
        have ka_613 : wr0.cell? ⟨wt_1.heap.size, 8, none⟩ = some (.int .i64 (Go.Proofs.Ytlljmgphgmklcaa.GoA.nth latest_7l0 8)) := Go.Proofs.Ytlljmgphgmklcaa.GoA.row_at Olatest_7l0.out hnlatest_7l0.out 8 (by omega)
        have ka_614 : wr0.cell? ⟨wt_1.heap.size, 9, none⟩ = some (.int .i64 (Go.Proofs.Ytlljmgphgmklcaa.GoA.nth latest_7l0 9)) := Go.Proofs.Ytlljmgphgmklcaa.GoA.row_at Olatest_7l0.out hnlatest_7l0.out 9 (by omega)
        obtain ⟨wb42_42, hwb42_42⟩ : ∃ x, ((((((((((wr0).setCell ⟨w.heap.size, 0, none⟩ (.int .i64 (Go.Proofs.Ytlljmgphgmklcaa.GoA.nth latest_7l0 0))).setCell ⟨w.heap.size, 1, none⟩ (.int .i64 (Go.Proofs.Ytlljmgphgmklcaa.GoA.nth latest_7l0 1))).setCell ⟨w.heap.size, 2, none⟩ (.int .i64 (Go.Proofs.Ytlljmgphgmklcaa.GoA.nth latest_7l0 2))).setCell ⟨w.heap.size, 3, none⟩ (.int .i64 (Go.Proofs.Ytlljmgphgmklcaa.GoA.nth latest_7l0 3))).setCell ⟨w.heap.size, 4, none⟩ (.int .i64 (Go.Proofs.Ytlljmgphgmklcaa.GoA.nth latest_7l0 4))).setCell ⟨w.heap.size, 5, none⟩ (.int .i64 (Go.Proofs.Ytlljmgphgmklcaa.GoA.nth latest_7l0 5))).setCell ⟨w.heap.size, 6, none⟩ (.int .i64 (Go.Proofs.Ytlljmgphgmklcaa.GoA.nth latest_7l0 6))).setCell ⟨w.heap.size, 7, none⟩ (.int .i64 (Go.Proofs.Ytlljmgphgmklcaa.GoA.nth latest_7l0 7))).setCell ⟨w.heap.size, 8, none⟩ (.int .i64 (Go.Proofs.Ytlljmgphgmklcaa.GoA.nth latest_7l0 8))).setCell ⟨w.heap.size, 9, none⟩ (.int .i64 (Go.Proofs.Ytlljmgphgmklcaa.GoA.nth latest_7l0 9)) = x := ⟨_, rfl⟩
        have z0b42_42 := Ot_0.out.frozenAt 0
        have z1b42_42 := Ot_0.out.frozenAt 1
        have z2b42_42 := Ot_0.out.frozenAt 2
        have z3b42_42 := Ot_0.out.frozenAt 3
        have z4b42_42 := Ot_0.out.frozenAt 4
        have z5b42_42 := Ot_0.out.frozenAt 5
        have z6b42_42 := Ot_0.out.frozenAt 6
        have z7b42_42 := Ot_0.out.frozenAt 7
        have z8b42_42 := Ot_0.out.frozenAt 8
        have z9b42_42 := Ot_0.out.frozenAt 9
        have Sb42_42 := Lib.hid (own_stores [(0, .int .i64 (Go.Proofs.Ytlljmgphgmklcaa.GoA.nth latest_7l0 0)), (1, .int .i64 (Go.Proofs.Ytlljmgphgmklcaa.GoA.nth latest_7l0 1)), (2, .int .i64 (Go.Proofs.Ytlljmgphgmklcaa.GoA.nth latest_7l0 2)), (3, .int .i64 (Go.Proofs.Ytlljmgphgmklcaa.GoA.nth latest_7l0 3)), (4, .int .i64 (Go.Proofs.Ytlljmgphgmklcaa.GoA.nth latest_7l0 4)), (5, .int .i64 (Go.Proofs.Ytlljmgphgmklcaa.GoA.nth latest_7l0 5)), (6, .int .i64 (Go.Proofs.Ytlljmgphgmklcaa.GoA.nth latest_7l0 6)), (7, .int .i64 (Go.Proofs.Ytlljmgphgmklcaa.GoA.nth latest_7l0 7)), (8, .int .i64 (Go.Proofs.Ytlljmgphgmklcaa.GoA.nth latest_7l0 8)), (9, .int .i64 (Go.Proofs.Ytlljmgphgmklcaa.GoA.nth latest_7l0 9))] Ot_0.out)
        have Pb42_42 : Hid (wb42_42.ownsRow w.heap.size 121 10 (.slice (some ⟨w.heap.size, 0, none⟩) 1 1) 1 [.int .i64 (Go.Proofs.Ytlljmgphgmklcaa.GoA.nth latest_7l0 0), .int .i64 (Go.Proofs.Ytlljmgphgmklcaa.GoA.nth latest_7l0 1), .int .i64 (Go.Proofs.Ytlljmgphgmklcaa.GoA.nth latest_7l0 2), .int .i64 (Go.Proofs.Ytlljmgphgmklcaa.GoA.nth latest_7l0 3), .int .i64 (Go.Proofs.Ytlljmgphgmklcaa.GoA.nth latest_7l0 4), .int .i64 (Go.Proofs.Ytlljmgphgmklcaa.GoA.nth latest_7l0 5), .int .i64 (Go.Proofs.Ytlljmgphgmklcaa.GoA.nth latest_7l0 6), .int .i64 (Go.Proofs.Ytlljmgphgmklcaa.GoA.nth latest_7l0 7), .int .i64 (Go.Proofs.Ytlljmgphgmklcaa.GoA.nth latest_7l0 8), .int .i64 (Go.Proofs.Ytlljmgphgmklcaa.GoA.nth latest_7l0 9)]) := Lib.hid (by rw [← hwb42_42]; exact Sb42_42.out.1)
        have Gb42_42 : Hid (wr0.grownBy wb42_42 (Value.slice (some ⟨w.heap.size, 0, none⟩) 1 1).ownBlock) := Lib.hid (by rw [← hwb42_42]; exact Sb42_42.out.2)
        have HBwb42_42 := Lib.hid (HBwr0.out.grown Gb42_42.out HBwr0.out.size (fun q hq => (Ot_0.out.lt q hq).1))
        clear Sb42_42
        replace Olatest_7l0 := Lib.hid (own_other Olatest_7l0.out Gb42_42.out (Apart.symm Dlatest_7l0_t_0.out))
        clear Ot_0 Gb42_42
        have kt_0_0__615 : wb42_42.cell? ⟨w.heap.size, 0, none⟩ = some (.int .i64 (Go.Proofs.Ytlljmgphgmklcaa.GoA.nth latest_7l0 0)) := Pb42_42.out.cells rfl 0 _ rfl
        have kt_0_1__616 : wb42_42.cell? ⟨w.heap.size, 1, none⟩ = some (.int .i64 (Go.Proofs.Ytlljmgphgmklcaa.GoA.nth latest_7l0 1)) := Pb42_42.out.cells rfl 1 _ rfl
        have kt_0_2__617 : wb42_42.cell? ⟨w.heap.size, 2, none⟩ = some (.int .i64 (Go.Proofs.Ytlljmgphgmklcaa.GoA.nth latest_7l0 2)) := Pb42_42.out.cells rfl 2 _ rfl
        have kt_0_3__618 : wb42_42.cell? ⟨w.heap.size, 3, none⟩ = some (.int .i64 (Go.Proofs.Ytlljmgphgmklcaa.GoA.nth latest_7l0 3)) := Pb42_42.out.cells rfl 3 _ rfl
        have kt_0_4__619 : wb42_42.cell? ⟨w.heap.size, 4, none⟩ = some (.int .i64 (Go.Proofs.Ytlljmgphgmklcaa.GoA.nth latest_7l0 4)) := Pb42_42.out.cells rfl 4 _ rfl
        have kt_0_5__620 : wb42_42.cell? ⟨w.heap.size, 5, none⟩ = some (.int .i64 (Go.Proofs.Ytlljmgphgmklcaa.GoA.nth latest_7l0 5)) := Pb42_42.out.cells rfl 5 _ rfl
        have kt_0_6__621 : wb42_42.cell? ⟨w.heap.size, 6, none⟩ = some (.int .i64 (Go.Proofs.Ytlljmgphgmklcaa.GoA.nth latest_7l0 6)) := Pb42_42.out.cells rfl 6 _ rfl
        have kt_0_7__622 : wb42_42.cell? ⟨w.heap.size, 7, none⟩ = some (.int .i64 (Go.Proofs.Ytlljmgphgmklcaa.GoA.nth latest_7l0 7)) := Pb42_42.out.cells rfl 7 _ rfl
        have kt_0_8__623 : wb42_42.cell? ⟨w.heap.size, 8, none⟩ = some (.int .i64 (Go.Proofs.Ytlljmgphgmklcaa.GoA.nth latest_7l0 8)) := Pb42_42.out.cells rfl 8 _ rfl
        have kt_0_9__624 : wb42_42.cell? ⟨w.heap.size, 9, none⟩ = some (.int .i64 (Go.Proofs.Ytlljmgphgmklcaa.GoA.nth latest_7l0 9)) := Pb42_42.out.cells rfl 9 _ rfl
        cases ret_hid H
        go_wp2_with fail
        (try simp only [Exit.inBlock, Exit.then])
        refine bodyPost_ret (v := .agg #[.int .i64 (Go.Proofs.Ytlljmgphgmklcaa.GoA.nth latest_7l0 0), .int .i64 (Go.Proofs.Ytlljmgphgmklcaa.GoA.nth latest_7l0 1), .int .i64 (Go.Proofs.Ytlljmgphgmklcaa.GoA.nth latest_7l0 2), .int .i64 (Go.Proofs.Ytlljmgphgmklcaa.GoA.nth latest_7l0 3), .int .i64 (Go.Proofs.Ytlljmgphgmklcaa.GoA.nth latest_7l0 4), .int .i64 (Go.Proofs.Ytlljmgphgmklcaa.GoA.nth latest_7l0 5), .int .i64 (Go.Proofs.Ytlljmgphgmklcaa.GoA.nth latest_7l0 6), .int .i64 (Go.Proofs.Ytlljmgphgmklcaa.GoA.nth latest_7l0 7), .int .i64 (Go.Proofs.Ytlljmgphgmklcaa.GoA.nth latest_7l0 8), .int .i64 (Go.Proofs.Ytlljmgphgmklcaa.GoA.nth latest_7l0 9)]) ?hr_ ?hd_ ?_
        case hd_ => rfl
        case hr_ => simp [results, Try.results108, kt_0_0__615, kt_0_1__616, kt_0_2__617, kt_0_3__618, kt_0_4__619, kt_0_5__620, kt_0_6__621, kt_0_7__622, kt_0_8__623, kt_0_9__624, go_sem]
        exact ⟨rfl, HBwb42_42.out⟩
      | true =>
        replace H := ite_t H
        replace H := idx_hid H
        obtain ⟨nt_16, yt_16, et_16, lt_16, gt_16, H⟩ := H
        subst et_16
        have nc_625 : 0 ≤ nt_16 := by have := of_decide_eq_true ht_13; omega
        obtain ⟨t_16_leave, t_16_from_, t_16_to_, t_16_arrive⟩ := yt_16
        replace H := unMail_hid H
        obtain ⟨ab_t_16, ao_t_16, zt_16, At_16, z_t_16, ct_16_0, ct_16_1, ct_16_2, ct_16_3⟩ := Go.Proofs.Ytlljmgphgmklcaa.OMail.at_ M0.out lt_16
        obtain rfl := Option.some.inj (gt_16.out.symm.trans z_t_16)
        subst At_16
        have ltt_16 := cell_lt ct_16_0
        replace ct_16_0 := cell_below HBwr0.out ct_16_0
        replace ct_16_1 := cell_below HBwr0.out ct_16_1
        replace ct_16_2 := cell_below HBwr0.out ct_16_2
        replace ct_16_3 := cell_below HBwr0.out ct_16_3
        clear z_t_16
        have b0t_16 : (0 : Int) ≤ (nt_16 : Int) := by omega
        have b1t_16 : (nt_16 : Int) < ((list.length : Nat) : Int) := by omega
        have b2t_16 : ((nt_16 : Int)).toNat = nt_16 := by omega
        obtain ⟨w_x_18, hw_x_18⟩ : ∃ x, wr0.alloc (.cells #[.int .i64 t_16_leave, .int .i64 t_16_from_, .int .i64 t_16_to_, .int .i64 t_16_arrive] 108) = x := ⟨_, rfl⟩
        have bw_x_18 : Below wr0.heap.size wr0 w_x_18 := by rw [← hw_x_18]; exact (Below.refl _ _).alloc (Nat.le_refl _) _
        have Dx_18_latest_7l0 := Lib.hid (apart_fresh Olatest_7l0.out)
        have Dx_18_t_0 := Lib.hid (apart_box kt_0_0__595)
        have HBw_x_18 := Lib.hid (Below.step HBwr0.out bw_x_18)
        have kt_0_0__626 := cell_below bw_x_18 kt_0_0__595
        have kt_0_1__627 := cell_below bw_x_18 kt_0_1__596
        have kt_0_2__628 := cell_below bw_x_18 kt_0_2__597
        have kt_0_3__629 := cell_below bw_x_18 kt_0_3__598
        have kt_0_4__630 := cell_below bw_x_18 kt_0_4__599
        have kt_0_5__631 := cell_below bw_x_18 kt_0_5__600
        have kt_0_6__632 := cell_below bw_x_18 kt_0_6__601
        have kt_0_7__633 := cell_below bw_x_18 kt_0_7__602
        have kt_0_8__634 := cell_below bw_x_18 kt_0_8__603
        have kt_0_9__635 := cell_below bw_x_18 kt_0_9__604
        have ct_16_0__636 := cell_below bw_x_18 ct_16_0
        have ct_16_1__637 := cell_below bw_x_18 ct_16_1
        have ct_16_2__638 := cell_below bw_x_18 ct_16_2
        have ct_16_3__639 := cell_below bw_x_18 ct_16_3
        replace Olatest_7l0 := Lib.hid (own_below Olatest_7l0.out bw_x_18)
        replace Ot_0 := Lib.hid (own_below Ot_0.out bw_x_18)
        clear bw_x_18
        have kx_18_0 : w_x_18.cell? ⟨wr0.heap.size, 0, none⟩ = some (.int .i64 t_16_leave) := by rw [← hw_x_18]; exact box_new _ _ _ 0 _ rfl
        have kx_18_1 : w_x_18.cell? ⟨wr0.heap.size, 1, none⟩ = some (.int .i64 t_16_from_) := by rw [← hw_x_18]; exact box_new _ _ _ 1 _ rfl
        have kx_18_2 : w_x_18.cell? ⟨wr0.heap.size, 2, none⟩ = some (.int .i64 t_16_to_) := by rw [← hw_x_18]; exact box_new _ _ _ 2 _ rfl
        have kx_18_3 : w_x_18.cell? ⟨wr0.heap.size, 3, none⟩ = some (.int .i64 t_16_arrive) := by rw [← hw_x_18]; exact box_new _ _ _ 3 _ rfl
        go_wp2_with fail
        clear kt_0_0__595 kt_0_1__596 kt_0_2__597 kt_0_3__598 kt_0_4__599 kt_0_5__600 kt_0_6__601 kt_0_7__602 kt_0_8__603 kt_0_9__604 ct_16_0 ct_16_1 ct_16_2 ct_16_3
        have Hkt_0_0__626 := Lib.hid kt_0_0__626
        replace kt_0_0__626 := cell_regrown kt_0_0__626
        have Hkt_0_1__627 := Lib.hid kt_0_1__627
        replace kt_0_1__627 := cell_regrown kt_0_1__627
        have Hkt_0_2__628 := Lib.hid kt_0_2__628
        replace kt_0_2__628 := cell_regrown kt_0_2__628
        have Hkt_0_3__629 := Lib.hid kt_0_3__629
        replace kt_0_3__629 := cell_regrown kt_0_3__629
        have Hkt_0_4__630 := Lib.hid kt_0_4__630
        replace kt_0_4__630 := cell_regrown kt_0_4__630
        have Hkt_0_5__631 := Lib.hid kt_0_5__631
        replace kt_0_5__631 := cell_regrown kt_0_5__631
        have Hkt_0_6__632 := Lib.hid kt_0_6__632
        replace kt_0_6__632 := cell_regrown kt_0_6__632
        have Hkt_0_7__633 := Lib.hid kt_0_7__633
        replace kt_0_7__633 := cell_regrown kt_0_7__633
        have Hkt_0_8__634 := Lib.hid kt_0_8__634
        replace kt_0_8__634 := cell_regrown kt_0_8__634
        have Hkt_0_9__635 := Lib.hid kt_0_9__635
        replace kt_0_9__635 := cell_regrown kt_0_9__635
        have Hct_16_0__636 := Lib.hid ct_16_0__636
        replace ct_16_0__636 := cell_regrown ct_16_0__636
        have Hct_16_1__637 := Lib.hid ct_16_1__637
        replace ct_16_1__637 := cell_regrown ct_16_1__637
        have Hct_16_2__638 := Lib.hid ct_16_2__638
        replace ct_16_2__638 := cell_regrown ct_16_2__638
        have Hct_16_3__639 := Lib.hid ct_16_3__639
        replace ct_16_3__639 := cell_regrown ct_16_3__639
        have Hkx_18_0 := Lib.hid kx_18_0
        replace kx_18_0 := cell_regrown kx_18_0
        have Hkx_18_1 := Lib.hid kx_18_1
        replace kx_18_1 := cell_regrown kx_18_1
        have Hkx_18_2 := Lib.hid kx_18_2
        replace kx_18_2 := cell_regrown kx_18_2
        have Hkx_18_3 := Lib.hid kx_18_3
        replace kx_18_3 := cell_regrown kx_18_3
        replace H := idx_hid H
        obtain ⟨nt_24, yt_24, et_24, lt_24, gt_24, H⟩ := H
        subst et_24
        have hqt_24 := hnlatest_7l0.out
        obtain ⟨ab_t_24, ao_t_24, zt_24, At_24, z_t_24, ct_24_0⟩ := Go.Proofs.Ytlljmgphgmklcaa.HelpInt.Ints.at_ (own_cells Olatest_7l0.out) (k := nt_24) (by omega)
        obtain rfl := Option.some.inj (gt_24.out.symm.trans z_t_24)
        simp only [Option.some.injEq, Addr.mk.injEq] at At_24
        obtain ⟨rfl, rfl, _⟩ := At_24
        clear z_t_24
        simp only [Nat.zero_add] at ct_24_0
        have b0t_24 : (0 : Int) ≤ (nt_24 : Int) := by omega
        have b1t_24 : (nt_24 : Int) < ((10 : Nat) : Int) := by omega
        have b2t_24 : ((nt_24 : Int)).toNat = nt_24 := by omega
        clear hqt_24
        have Hct_24_0 := Lib.hid ct_24_0
        replace ct_24_0 := cell_regrown ct_24_0
        have b3t_24 : nt_24 < 10 := by have h_ := lt_24; have hn_ := hnlatest_7l0.out; omega
        have b4t_24 : (nt_24 : Int) < (10 : Int) := by omega
        replace H := let_hid H
        obtain ⟨t_26, ht_26, H⟩ := H
        refine wp_region_quiet_below (by kernel_rfl) (by kernel_rfl) ?_
        repeat (go_big_quiet_step (fail))
        refine wpQuiet_nil ?_
        intro Y7 hY7
        replace hY7 := below_class hY7
        replace kt_0_0__626 := Hkt_0_0__626.out
        clear Hkt_0_0__626
        replace kt_0_1__627 := Hkt_0_1__627.out
        clear Hkt_0_1__627
        replace kt_0_2__628 := Hkt_0_2__628.out
        clear Hkt_0_2__628
        replace kt_0_3__629 := Hkt_0_3__629.out
        clear Hkt_0_3__629
        replace kt_0_4__630 := Hkt_0_4__630.out
        clear Hkt_0_4__630
        replace kt_0_5__631 := Hkt_0_5__631.out
        clear Hkt_0_5__631
        replace kt_0_6__632 := Hkt_0_6__632.out
        clear Hkt_0_6__632
        replace kt_0_7__633 := Hkt_0_7__633.out
        clear Hkt_0_7__633
        replace kt_0_8__634 := Hkt_0_8__634.out
        clear Hkt_0_8__634
        replace kt_0_9__635 := Hkt_0_9__635.out
        clear Hkt_0_9__635
        replace ct_16_0__636 := Hct_16_0__636.out
        clear Hct_16_0__636
        replace ct_16_1__637 := Hct_16_1__637.out
        clear Hct_16_1__637
        replace ct_16_2__638 := Hct_16_2__638.out
        clear Hct_16_2__638
        replace ct_16_3__639 := Hct_16_3__639.out
        clear Hct_16_3__639
        replace kx_18_0 := Hkx_18_0.out
        clear Hkx_18_0
        replace kx_18_1 := Hkx_18_1.out
        clear Hkx_18_1
        replace kx_18_2 := Hkx_18_2.out
        clear Hkx_18_2
        replace kx_18_3 := Hkx_18_3.out
        clear Hkx_18_3
        replace ct_24_0 := Hct_24_0.out
        clear Hct_24_0
        have HBY7 := Lib.hid (Below.step HBw_x_18.out hY7)
        replace kt_0_0__626 := cell_below hY7 kt_0_0__626
        replace kt_0_1__627 := cell_below hY7 kt_0_1__627
        replace kt_0_2__628 := cell_below hY7 kt_0_2__628
        replace kt_0_3__629 := cell_below hY7 kt_0_3__629
        replace kt_0_4__630 := cell_below hY7 kt_0_4__630
        replace kt_0_5__631 := cell_below hY7 kt_0_5__631
        replace kt_0_6__632 := cell_below hY7 kt_0_6__632
        replace kt_0_7__633 := cell_below hY7 kt_0_7__633
        replace kt_0_8__634 := cell_below hY7 kt_0_8__634
        replace kt_0_9__635 := cell_below hY7 kt_0_9__635
        replace ct_16_0__636 := cell_below hY7 ct_16_0__636
        replace ct_16_1__637 := cell_below hY7 ct_16_1__637
        replace ct_16_2__638 := cell_below hY7 ct_16_2__638
        replace ct_16_3__639 := cell_below hY7 ct_16_3__639
        replace kx_18_0 := cell_below hY7 kx_18_0
        replace kx_18_1 := cell_below hY7 kx_18_1
        replace kx_18_2 := cell_below hY7 kx_18_2
        replace kx_18_3 := cell_below hY7 kx_18_3
        replace ct_24_0 := cell_below hY7 ct_24_0
        replace Olatest_7l0 := Lib.hid (own_below Olatest_7l0.out hY7)
        replace Ot_0 := Lib.hid (own_below Ot_0.out hY7)
        clear hY7
        cases t_26 with
        | false =>
          replace H := ite_f H
          replace H := let_hid H
          obtain ⟨t_39, ht_39, H⟩ := H
          replace H := app_hid H
          go_wp2_with fail
          go_roundg m0
          case measure => omega
          case rel => exact ⟨_, _, rfl, H, HBY7, kt_0_0__626, kt_0_1__627, kt_0_2__628, kt_0_3__629, kt_0_4__630, kt_0_5__631, kt_0_6__632, kt_0_7__633, kt_0_8__634, kt_0_9__635, Ot_0, Olatest_7l0, Lib.hid (hnlatest_7l0.out), Lib.hid Dlatest_7l0_t_0.out⟩
        | true =>
          replace H := ite_t H
          go_wp2_with fail
          obtain ⟨Z8, hZ8⟩ : ∃ x, Y7.drew = x := ⟨_, rfl⟩
          have bd8 : Below Y7.heap.size Y7 Z8 := by rw [← hZ8]; exact (Below.refl _ _).drew
          have HBZ8 := Lib.hid (Below.step HBY7.out bd8)
          replace kt_0_0__626 := cell_below bd8 kt_0_0__626
          replace kt_0_1__627 := cell_below bd8 kt_0_1__627
          replace kt_0_2__628 := cell_below bd8 kt_0_2__628
          replace kt_0_3__629 := cell_below bd8 kt_0_3__629
          replace kt_0_4__630 := cell_below bd8 kt_0_4__630
          replace kt_0_5__631 := cell_below bd8 kt_0_5__631
          replace kt_0_6__632 := cell_below bd8 kt_0_6__632
          replace kt_0_7__633 := cell_below bd8 kt_0_7__633
          replace kt_0_8__634 := cell_below bd8 kt_0_8__634
          replace kt_0_9__635 := cell_below bd8 kt_0_9__635
          replace ct_16_0__636 := cell_below bd8 ct_16_0__636
          replace ct_16_1__637 := cell_below bd8 ct_16_1__637
          replace ct_16_2__638 := cell_below bd8 ct_16_2__638
          replace ct_16_3__639 := cell_below bd8 ct_16_3__639
          replace kx_18_0 := cell_below bd8 kx_18_0
          replace kx_18_1 := cell_below bd8 kx_18_1
          replace kx_18_2 := cell_below bd8 kx_18_2
          replace kx_18_3 := cell_below bd8 kx_18_3
          replace ct_24_0 := cell_below bd8 ct_24_0
          replace Olatest_7l0 := Lib.hid (own_below Olatest_7l0.out bd8)
          replace Ot_0 := Lib.hid (own_below Ot_0.out bd8)
          clear bd8
          replace H := idx_hid H
          obtain ⟨nt_31, yt_31, et_31, lt_31, gt_31, H⟩ := H
          subst et_31
          have hqt_31 := hnlatest_7l0.out
          obtain ⟨ab_t_31, ao_t_31, zt_31, At_31, z_t_31, ct_31_0⟩ := Go.Proofs.Ytlljmgphgmklcaa.HelpInt.Ints.at_ (own_cells Olatest_7l0.out) (k := nt_31) (by omega)
          obtain rfl := Option.some.inj (gt_31.out.symm.trans z_t_31)
          simp only [Option.some.injEq, Addr.mk.injEq] at At_31
          obtain ⟨rfl, rfl, _⟩ := At_31
          clear z_t_31
          simp only [Nat.zero_add] at ct_31_0
          have b0t_31 : (0 : Int) ≤ (nt_31 : Int) := by omega
          have b1t_31 : (nt_31 : Int) < ((10 : Nat) : Int) := by omega
          have b2t_31 : ((nt_31 : Int)).toNat = nt_31 := by omega
          clear hqt_31
          have b3t_31 : nt_31 < 10 := by have h_ := lt_31; have hn_ := hnlatest_7l0.out; omega
          have b4t_31 : (nt_31 : Int) < (10 : Int) := by omega
          replace H := let_hid H
          obtain ⟨t_35, ht_35, H⟩ := H
          replace H := idx_hid H
          obtain ⟨nt_36, yt_36, et_36, lt_36, gt_36, H⟩ := H
          obtain rfl : nt_31 = nt_36 := by omega
          clear et_36
          obtain rfl := Option.some.inj (gt_31.out.symm.trans gt_36.out)
          clear gt_36 lt_36
          have b3t_36 : nt_31 < 10 := by have h_ := lt_31; have hn_ := hnlatest_7l0.out; omega
          have b4t_36 : (nt_31 : Int) < (10 : Int) := by omega
          refine wp_region_still_tail 10 (by kernel_rfl) (by kernel_rfl) ?_
          simp only [List.take_succ_cons, List.take_zero, List.drop_succ_cons, List.drop_zero]
          change wpStill _ _ Y7.drew _ _ _
          rw [hZ8]
          repeat still_step
          refine wpStill_nil ?_
          change wpList _ _ _ _ _ Y7.drew
          rw [hZ8]
          clear hZ8
          replace H := let_hid H
          obtain ⟨l37_37, hl37_37, H⟩ := H
          try simp only [Int.toNat_natCast] at hl37_37
          obtain ⟨wl37_37, hwl37_37⟩ : ∃ x, (Z8).setCell ⟨wt_1.heap.size, nt_31, none⟩ (.int .i64 t_35) = x := ⟨_, rfl⟩
          have z0l37_37 := Olatest_7l0.out.frozenAt (nt_31)
          have Sl37_37 := Lib.hid (own_stores [(nt_31, .int .i64 t_35)] Olatest_7l0.out)
          have nl37_37 : Hid (l37_37.length = 10) := Lib.hid (by rw [← hl37_37, List.length_set]; exact hnlatest_7l0.out)
          have Pl37_37 : Hid (wl37_37.ownsRow w.heap.size 121 1 (.slice (some ⟨wt_1.heap.size, 0, none⟩) 10 10) 10 (Go.Proofs.Ytlljmgphgmklcaa.HelpInt.iv l37_37)) := Lib.hid (by have e_ : ([(nt_31, .int .i64 t_35)] : List (Nat × Value)).foldl (fun xs p => xs.set p.1 p.2) (Go.Proofs.Ytlljmgphgmklcaa.HelpInt.iv latest_7l0) = (Go.Proofs.Ytlljmgphgmklcaa.HelpInt.iv l37_37) := (by rw [← hl37_37]; first | done | simp [Go.Proofs.Ytlljmgphgmklcaa.HelpInt.iv, List.map_set]); rw [← hwl37_37, ← e_]; exact Sl37_37.out.1)
          have Gl37_37 : Hid (Z8.grownBy wl37_37 (Value.slice (some ⟨wt_1.heap.size, 0, none⟩) 10 10).ownBlock) := Lib.hid (by rw [← hwl37_37]; exact Sl37_37.out.2)
          have HBwl37_37 := Lib.hid (HBZ8.out.grown Gl37_37.out HBZ8.out.size (fun q hq => (Olatest_7l0.out.lt q hq).1))
          have hhl37_37 := Lib.hid hl37_37
          clear hl37_37 Sl37_37
          have kt_0_0__640 := cell_other kt_0_0__626 Gl37_37.out Dlatest_7l0_t_0.out
          have kt_0_1__641 := cell_other kt_0_1__627 Gl37_37.out Dlatest_7l0_t_0.out
          have kt_0_2__642 := cell_other kt_0_2__628 Gl37_37.out Dlatest_7l0_t_0.out
          have kt_0_3__643 := cell_other kt_0_3__629 Gl37_37.out Dlatest_7l0_t_0.out
          have kt_0_4__644 := cell_other kt_0_4__630 Gl37_37.out Dlatest_7l0_t_0.out
          have kt_0_5__645 := cell_other kt_0_5__631 Gl37_37.out Dlatest_7l0_t_0.out
          have kt_0_6__646 := cell_other kt_0_6__632 Gl37_37.out Dlatest_7l0_t_0.out
          have kt_0_7__647 := cell_other kt_0_7__633 Gl37_37.out Dlatest_7l0_t_0.out
          have kt_0_8__648 := cell_other kt_0_8__634 Gl37_37.out Dlatest_7l0_t_0.out
          have kt_0_9__649 := cell_other kt_0_9__635 Gl37_37.out Dlatest_7l0_t_0.out
          have ct_16_0__650 := cell_other ct_16_0__636 Gl37_37.out (apart_old Olatest_7l0.out ltt_16)
          have ct_16_1__651 := cell_other ct_16_1__637 Gl37_37.out (apart_old Olatest_7l0.out ltt_16)
          have ct_16_2__652 := cell_other ct_16_2__638 Gl37_37.out (apart_old Olatest_7l0.out ltt_16)
          have ct_16_3__653 := cell_other ct_16_3__639 Gl37_37.out (apart_old Olatest_7l0.out ltt_16)
          have kx_18_0__654 := cell_other kx_18_0 Gl37_37.out (Apart.symm Dx_18_latest_7l0.out)
          have kx_18_1__655 := cell_other kx_18_1 Gl37_37.out (Apart.symm Dx_18_latest_7l0.out)
          have kx_18_2__656 := cell_other kx_18_2 Gl37_37.out (Apart.symm Dx_18_latest_7l0.out)
          have kx_18_3__657 := cell_other kx_18_3 Gl37_37.out (Apart.symm Dx_18_latest_7l0.out)
          replace Ot_0 := Lib.hid (own_other Ot_0.out Gl37_37.out Dlatest_7l0_t_0.out)
          clear Olatest_7l0 Gl37_37
          replace H := let_hid H
          obtain ⟨t_39, ht_39, H⟩ := H
          replace H := app_hid H
          go_wp2_with fail
          clear z0l37_37 kt_0_0__626 kt_0_1__627 kt_0_2__628 kt_0_3__629 kt_0_4__630 kt_0_5__631 kt_0_6__632 kt_0_7__633 kt_0_8__634 kt_0_9__635 ct_16_0__636 ct_16_1__637 ct_16_2__638 ct_16_3__639 kx_18_0 kx_18_1 kx_18_2 kx_18_3 ct_24_0 ct_31_0
          go_roundg m0
          case measure => omega
          case rel => exact ⟨_, _, rfl, H, HBwl37_37, kt_0_0__640, kt_0_1__641, kt_0_2__642, kt_0_3__643, kt_0_4__644, kt_0_5__645, kt_0_6__646, kt_0_7__647, kt_0_8__648, kt_0_9__649, Ot_0, Pl37_37, Lib.hid (nl37_37.out), Lib.hid Dlatest_7l0_t_0.out⟩
end Go.Proofs.Ytlljmgphgmklcaa.GiLatestMinutes

/- Chapter 9: mails and routes: the plain functions of the program and of the reference agree, and the laws answer true. (Q9Cand) No condition but those of each theorem. -/
namespace Go.Proofs.Ytlljmgphgmklcaa.Q9Cand
set_option linter.unusedVariables false
set_option linter.unusedSimpArgs false
open Go.RowKit
open Go.Proofs.Ytlljmgphgmklcaa.GoP Go.Proofs.Ytlljmgphgmklcaa.PlainStamp Go.Proofs.Ytlljmgphgmklcaa.QBase Go.Proofs.Ytlljmgphgmklcaa.Q9Dual Go.Proofs.Ytlljmgphgmklcaa.Q9Arr Go.Proofs.Ytlljmgphgmklcaa.Q9List Go.Proofs.Ytlljmgphgmklcaa.Q9Mail Go.Proofs.Ytlljmgphgmklcaa.QLoop Go.Proofs.Ytlljmgphgmklcaa.PMail Go.Proofs.Ytlljmgphgmklcaa.PIntA10

theorem split_at {l : List Mail} {k : Nat} {x : Mail} (h : l[k]? = some x) : l = l.take k ++ x :: l.drop (k + 1) := by
  obtain ⟨hk, e⟩ := List.getElem?_eq_some_iff.1 h
  rw [← e, ← List.drop_eq_getElem_cons hk, List.take_append_drop]
/-- those ahead of a mail leave no later -/
theorem aheadM {l : List Mail} (hg : goodM l = true) {k : Nat} {x : Mail} (hx : l[k]? = some x) : ∀ y ∈ l.take k, y.leave ≤ x.leave := by
  intro y hy
  obtain ⟨j, hj⟩ := List.getElem?_of_mem hy
  rw [List.getElem?_take] at hj
  split at hj
  · exact m_leave hg (by assumption) hj hx
  · exact absurd hj (by simp)
theorem late_cut {l : List Mail} {k : Nat} {x : Mail} (hx : l[k]? = some x) (p b : Int) : lateM l p b = (l.take k).foldr stepL (stepL x (lateM (l.drop (k + 1)) p b)) := by
  have h := split_at hx
  show l.foldr stepL (startL p b) = _
  conv => lhs; rw [h]
  rw [List.foldr_append, List.foldr_cons]; rfl
/-- whether one still comes in time behind a mail is told by those behind it alone -/
theorem late_behind {l : List Mail} (hg : goodM l = true) {k : Nat} {x : Mail} (hx : l[k]? = some x) (p b : Int) : x.arrive ≤ at_ (lateM l p b) x.to_ ↔ x.arrive ≤ at_ (lateM (l.drop (k + 1)) p b) x.to_ := by
  have hok := m_ok hg hx
  have hm := okM_of hok
  have hd := late_len (l.drop (k + 1)) p b
  have h1 : at_ (stepL x (lateM (l.drop (k + 1)) p b)) x.to_ = at_ (lateM (l.drop (k + 1)) p b) x.to_ := by
    rw [stepL_at hd hok hm.2.1, if_neg (fun q => hm.2.2.1 q.2.symm)]
  rw [late_cut hx p b]
  have hmem : ∀ y ∈ l.take k, okM y = true := fun y hy => m_mem hg (List.mem_of_mem_take hy)
  have h2 := foldL_up (l.take k) hmem hm.2.1 (t := stepL x (lateM (l.drop (k + 1)) p b)) (by rw [stepL_len, hd])
  have h3 := foldL_top (l.take k) hmem (aheadM hg hx) hm.2.1 (t := stepL x (lateM (l.drop (k + 1)) p b)) (by rw [stepL_len, hd])
  rw [h1] at h2 h3
  constructor
  · intro h; omega
  · intro h; omega
theorem late_from {l : List Mail} (hg : goodM l = true) {k : Nat} {x : Mail} (hx : l[k]? = some x) {p b : Int} (h : x.arrive ≤ at_ (lateM l p b) x.to_) : x.leave ≤ at_ (lateM l p b) x.from_ := by
  have hok := m_ok hg hx
  have hm := okM_of hok
  have hd := late_len (l.drop (k + 1)) p b
  have h1 := (late_behind hg hx p b).1 h
  rw [late_cut hx p b]
  have hmem : ∀ y ∈ l.take k, okM y = true := fun y hy => m_mem hg (List.mem_of_mem_take hy)
  refine Int.le_trans ?_ (foldL_up (l.take k) hmem hm.1 (by rw [stepL_len, hd]))
  rw [stepL_at hd hok hm.1, if_pos ⟨h1, rfl⟩]; omega
/-- with a mail one comes no earlier than without asking for it -/
theorem take_le {l : List Mail} (hg : goodM l = true) {k : Nat} {x : Mail} (hx : l[k]? = some x) {m p : Int} (hp : 0 ≤ p ∧ p ≤ 9) (hm : 0 ≤ m ∧ m ≤ x.leave) : at_ (earlyM l x.from_ m) p ≤ at_ (earlyM l x.to_ x.arrive) p := by
  have ho := okM_of (m_ok hg hx)
  obtain ⟨b, hb⟩ : ∃ b, b = at_ (earlyM l x.to_ x.arrive) p := ⟨_, rfl⟩
  rw [← hb]
  by_cases h : b ≤ 9999
  · have h1 := (dual hg ho.2.1 hp (by omega) h).1 (Int.le_of_eq hb.symm)
    have h2 := late_from hg hx h1
    exact (dual hg ho.1 hp (by omega) h).2 (by omega)
  · have := early_top hg (m := m) ho.1 (by omega) hp; omega
/-- where one may be later than at first, some mail leads on -/
theorem late_some (l : List Mail) (hl : ∀ x ∈ l, okM x = true) {p b o m : Int} (hp : 0 ≤ p ∧ p ≤ 9) (ho : 0 ≤ o ∧ o ≤ 9) (h0 : at_ (startL p b) o < m) (h : m ≤ at_ (lateM l p b) o) : ∃ x ∈ l, x.from_ = o ∧ m ≤ x.leave ∧ x.arrive ≤ at_ (lateM l p b) x.to_ := by
  induction l with
  | nil => exact absurd h (by simp only [lateM, List.foldr_nil]; omega)
  | cons x l ih =>
    have hok := hl x (List.mem_cons_self ..)
    have hm := okM_of hok
    have hlen := late_len l p b
    have e : lateM (x :: l) p b = stepL x (lateM l p b) := rfl
    by_cases h1 : m ≤ at_ (lateM l p b) o
    · obtain ⟨y, hy, h2, h3, h4⟩ := ih (fun y hy => hl y (List.mem_cons_of_mem _ hy)) h1
      refine ⟨y, List.mem_cons_of_mem _ hy, h2, h3, Int.le_trans h4 ?_⟩
      rw [e, stepL_at hlen hok (okM_of (hl y (List.mem_cons_of_mem _ hy))).2.1]
      split <;> omega
    · rw [e, stepL_at hlen hok ho] at h
      split at h
      · rename_i hc
        refine ⟨x, List.mem_cons_self .., hc.2.symm, by omega, ?_⟩
        rw [e, stepL_at hlen hok hm.2.1, if_neg (fun q => hm.2.2.1 q.2.symm)]
        exact hc.1
      · exact absurd h h1
/-- a mail that leads on from an office at a minute -/
def cand (l : List Mail) (p e o m : Int) (x : Mail) : Bool := decide (x.from_ = o ∧ m ≤ x.leave ∧ x.arrive ≤ at_ (lateM l p e) x.to_)
theorem cand_iff {l : List Mail} (hg : goodM l = true) {p e o m : Int} (hp : 0 ≤ p ∧ p ≤ 9) (hm : 0 ≤ m) (he : e ≤ 9999) (hE : at_ (earlyM l o m) p = e) {k : Nat} {x : Mail} (hx : l[k]? = some x) :
    cand l p e o m x = decide (x.from_ = o ∧ m ≤ x.leave ∧ at_ (earlyM l x.to_ x.arrive) p = e) := by
  have h1 := okM_of (m_ok hg hx)
  unfold cand
  congr 1
  rw [eq_iff_iff]
  constructor
  · rintro ⟨rfl, h3, h4⟩
    have h5 := (dual hg h1.2.1 hp (by omega) he).2 h4
    have h6 := take_le hg hx hp ⟨hm, h3⟩
    exact ⟨rfl, h3, by omega⟩
  · rintro ⟨h2, h3, h4⟩
    exact ⟨h2, h3, (dual hg h1.2.1 hp (by omega) he).1 (Int.le_of_eq h4)⟩
theorem cand_none {l : List Mail} (hg : goodM l = true) {p e o m : Int} (hp : 0 ≤ p ∧ p ≤ 9) (ho : 0 ≤ o ∧ o ≤ 9) (hm : 0 ≤ m) (he : e ≤ 9999) (hE : at_ (earlyM l o m) p = e) (hm9 : m ≤ 9999) :
    (∀ x ∈ l, cand l p e o m x = false) ↔ o = p ∧ m = e := by
  constructor
  · intro h
    have h1 := (dual hg ho hp ⟨hm, hm9⟩ he).1 (Int.le_of_eq hE)
    have hup := early_up hg (m := m) ho hp
    have hlow := early_low hg ho hm9 hp
    by_cases hop : o = p
    · rw [if_pos hop.symm] at hup; exact ⟨hop, by omega⟩
    · obtain ⟨x, hx, h2, h3, h4⟩ := late_some l (fun x hx => m_mem hg hx) hp ho (m := m) (by rw [startL_at hp ho, if_neg hop]; omega) h1
      have := h x hx
      unfold cand at this
      rw [decide_eq_true (show x.from_ = o ∧ m ≤ x.leave ∧ x.arrive ≤ at_ (lateM l p e) x.to_ from ⟨h2, h3, h4⟩)] at this
      exact absurd this (by simp)
  · rintro ⟨rfl, rfl⟩ x hx
    obtain ⟨k, hk⟩ := List.getElem?_of_mem hx
    have h1 := okM_of (m_mem hg hx)
    rw [cand_iff hg hp hm he hE hk, decide_eq_false]
    rintro ⟨h2, h3, h4⟩
    have := early_low hg h1.2.1 (m := x.arrive) (by omega) hp
    omega
end Go.Proofs.Ytlljmgphgmklcaa.Q9Cand

/- Loops that test each place, and loops without a count. No condition. -/
namespace Go.Proofs.Ytlljmgphgmklcaa.QAll
set_option linter.unusedVariables false
set_option linter.unusedSimpArgs false
open Go.RowKit
open Go.Proofs.Ytlljmgphgmklcaa.GoP Go.Proofs.Ytlljmgphgmklcaa.QBase Go.Proofs.Ytlljmgphgmklcaa.QLoop

/-- each number below n is good -/
def allN (n : Nat) (p : Nat → Bool) : Bool := (List.range n).all p
theorem allN_iff {n : Nat} {p : Nat → Bool} : allN n p = true ↔ ∀ i, i < n → p i = true := by unfold allN; simp
theorem allN_no {n k : Nat} {p : Nat → Bool} (hk : k < n) (h : p k = false) : allN n p = false := by
  rw [Bool.eq_false_iff]; intro ha; rw [allN_iff.1 ha k hk] at h; exact absurd h (by simp)
theorem allN_eq {n m : Nat} {p q : Nat → Bool} (h : (∀ i, i < n → p i = true) ↔ (∀ i, i < m → q i = true)) : allN n p = allN m q := by
  rw [Bool.eq_iff_iff, allN_iff, allN_iff]; exact h
theorem all_cnt {ρ : Type} {n : Nat} {p : Nat → Bool} {no : ρ} {f : Nat → Unit → (Unit → Option ρ) → (Unit → Option ρ) → Option ρ} {fin : Unit → Option ρ}
    (step : ∀ k nx, k < n → (p k = false → f k () nx fin = some no) ∧ (p k = true → f k () nx fin = nx ())) : cntK f n 0 () fin = if allN n p = true then fin () else some no := by
  have key : ∀ m k, k + m = n → (∀ i, i < k → p i = true) → cntK f m k () fin = if allN n p = true then fin () else some no := by
    intro m
    induction m with
    | zero => intro k hk hu; obtain rfl : k = n := by omega
              rw [allN_iff.2 hu]; rfl
    | succ m ih =>
      intro k hk hu
      obtain ⟨h1, h2⟩ := step k (fun s' => cntK f m (k + 1) s' fin) (by omega)
      show f k () _ fin = _
      cases hp : p k with
      | false => rw [h1 hp, allN_no (by omega) hp]; rfl
      | true =>
        rw [h2 hp]
        refine ih (k + 1) (by omega) (fun i hi => ?_)
        by_cases he : i = k
        · rw [he]; exact hp
        · exact hu i (by omega)
  exact key n 0 (by omega) (fun i hi => by omega)
theorem lp_ex {σ ρ : Type} {f : σ → (σ → Option ρ) → (σ → Option ρ) → Option ρ} {fin : σ → Option ρ} {Q : ρ → Prop} {n : Nat} (I : Nat → σ → Prop)
    (step : ∀ k s nx, k < n → I k s → (∀ s', I (k + 1) s' → ∃ r, nx s' = some r ∧ Q r) → ∃ r, f s nx fin = some r ∧ Q r) (done : ∀ s nx, I n s → ∃ r, f s nx fin = some r ∧ Q r) :
    ∀ fuel k s, k ≤ n → n - k < fuel → I k s → ∃ r, loopK f fuel s fin = some r ∧ Q r := by
  intro fuel
  induction fuel with
  | zero => intro k s hk hf; omega
  | succ m ih =>
    intro k s hk hf hI
    show ∃ r, f s _ fin = some r ∧ Q r
    by_cases he : k = n
    · subst he; exact done s _ hI
    · exact step k s _ (by omega) hI (fun s' h' => ih (k + 1) s' (by omega) (by omega) h')
theorem all_lp {ρ : Type} {n : Nat} {p : Nat → Bool} {no : ρ} {f : Int → (Int → Option ρ) → (Int → Option ρ) → Option ρ} {fin : Int → Option ρ}
    (step : ∀ (k : Nat) nx, k < n → (p k = false → f (k : Int) nx fin = some no) ∧ (p k = true → f (k : Int) nx fin = nx ((k + 1 : Nat) : Int))) (stop : ∀ nx, f (n : Int) nx fin = fin (n : Int))
    (fuel : Nat) (hf : n < fuel) : loopK f fuel 0 fin = if allN n p = true then fin (n : Int) else some no := by
  have key : ∀ fuel k, k ≤ n → n - k < fuel → (∀ i, i < k → p i = true) → loopK f fuel (k : Int) fin = if allN n p = true then fin (n : Int) else some no := by
    intro fuel
    induction fuel with
    | zero => intro k hk hf; omega
    | succ m ih =>
      intro k hk hf hu
      show f (k : Int) _ fin = _
      by_cases he : k = n
      · subst he; rw [stop, allN_iff.2 hu]; rfl
      · obtain ⟨h1, h2⟩ := step k (fun s' => loopK f m s' fin) (by omega)
        cases hp : p k with
        | false => rw [h1 hp, allN_no (by omega) hp]; rfl
        | true =>
          rw [h2 hp]
          refine ih (k + 1) (by omega) (by omega) (fun i hi => ?_)
          by_cases he : i = k
          · rw [he]; exact hp
          · exact hu i (by omega)
  exact key fuel 0 (by omega) (by omega) (fun i hi => by omega)
theorem next_i {k : Nat} (h : k ≤ 9223372036854775806) : IntKind.i64.wrap ((k : Int) + 1) = ((k + 1 : Nat) : Int) := by rw [wrap_in (by omega) (by omega)]; omega
end Go.Proofs.Ytlljmgphgmklcaa.QAll

/- Rising rows: what a rising row gives; loops that sum; loops from one on. No condition. -/
namespace Go.Proofs.Ytlljmgphgmklcaa.QUp
set_option linter.unusedVariables false
set_option linter.unusedSimpArgs false
open Go.RowKit
open Go.Proofs.Ytlljmgphgmklcaa.GoP Go.Proofs.Ytlljmgphgmklcaa.QBase Go.Proofs.Ytlljmgphgmklcaa.QLoop Go.Proofs.Ytlljmgphgmklcaa.QAll

theorem upTo_at {α : Type} {ok : α → Bool} {id : α → Int} {l : List α} {n : Nat} (h : upTo ok id l n = true) {k : Nat} (hk : k < n) : upAt ok id l k = true := List.all_eq_true.1 h k (List.mem_range.2 hk)
theorem upTo_ok {α : Type} {ok : α → Bool} {id : α → Int} {l : List α} {n : Nat} (h : upTo ok id l n = true) {k : Nat} (hk : k < n) {x : α} (hx : l[k]? = some x) : ok x = true := by
  have := upTo_at h hk
  unfold upAt at this
  rw [hx] at this
  simp only [Bool.and_eq_true] at this
  exact this.1
theorem upTo_step {α : Type} {ok : α → Bool} {id : α → Int} {l : List α} {n : Nat} (h : upTo ok id l n = true) {k : Nat} (hk : k + 1 < n) {x y : α} (hx : l[k]? = some x) (hy : l[k + 1]? = some y) : id x < id y := by
  have := upTo_at h hk
  unfold upAt at this
  rw [hy] at this
  simp only [Nat.add_sub_cancel, hx, Bool.and_eq_true, Bool.or_eq_true, decide_eq_true_eq] at this
  rcases this.2 with h0 | h0
  · omega
  · exact h0
theorem upTo_lt {α : Type} {ok : α → Bool} {id : α → Int} {l : List α} {n : Nat} (h : upTo ok id l n = true) (hn : n ≤ l.length) {i : Nat} : ∀ d {x y : α}, i + d + 1 < n → l[i]? = some x → l[i + d + 1]? = some y → id x < id y := by
  intro d
  induction d with
  | zero => intro x y hk hx hy; exact upTo_step h hk hx hy
  | succ d ih =>
    intro x y hk hx hy
    obtain ⟨z, hz, _⟩ := at_lt (l := l) (k := i + d + 1) (by omega)
    have h1 := ih (by omega) hx hz
    have h2 := upTo_step (k := i + d + 1) h (by omega) hz (by rw [← hy]; rfl)
    omega
/-- rising numbers: the later one is greater -/
theorem up_less {α : Type} {ok : α → Bool} {id : α → Int} {l : List α} (h : upTo ok id l l.length = true) {i j : Nat} {x y : α} (hij : i < j) (hx : l[i]? = some x) (hy : l[j]? = some y) : id x < id y := by
  have hj := (List.getElem?_eq_some_iff.1 hy).1
  exact upTo_lt h (Nat.le_refl _) (j - i - 1) (by omega) hx (by rw [← hy]; congr 1; omega)
/-- a loop with fuel, from k on, by an invariant -/
theorem lp_is {σ ρ : Type} {f : σ → (σ → Option ρ) → (σ → Option ρ) → Option ρ} {fin : σ → Option ρ} {n : Nat} (r : ρ) (I : Nat → σ → Prop)
    (step : ∀ k s nx, k < n → I k s → (∀ s', I (k + 1) s' → nx s' = some r) → f s nx fin = some r) (done : ∀ s nx, I n s → f s nx fin = some r) (fuel : Nat) (k : Nat) (s : σ) (hk : k ≤ n) (hf : n - k < fuel) (hI : I k s) : loopK f fuel s fin = some r := by
  obtain ⟨r', h, rfl⟩ := lp_ex (Q := fun x => x = r) I (fun k s nx hk hI hn => ⟨r, step k s nx hk hI (fun s' h' => by obtain ⟨_, h, rfl⟩ := hn s' h'; exact h), rfl⟩) (fun s nx h => ⟨r, done s nx h, rfl⟩) fuel k s hk hf hI
  exact h
theorem most_eq (a b : Int) (h : (if b < a then a else b) = max a b := by omega) : (if b < a then a else b) = max a b := h
end Go.Proofs.Ytlljmgphgmklcaa.QUp

/- Chapter 9: mails and routes: the plain functions of the program and of the reference agree, and the laws answer true. (Q9Late) No condition but those of each theorem. -/
namespace Go.Proofs.Ytlljmgphgmklcaa.Q9Late
set_option linter.unusedVariables false
set_option linter.unusedSimpArgs false
open Go.RowKit
open Go.Proofs.Ytlljmgphgmklcaa.GoP Go.Proofs.Ytlljmgphgmklcaa.PlainStamp Go.Proofs.Ytlljmgphgmklcaa.QBase Go.Proofs.Ytlljmgphgmklcaa.QFoldS Go.Proofs.Ytlljmgphgmklcaa.Q9Cand Go.Proofs.Ytlljmgphgmklcaa.Q9Dual Go.Proofs.Ytlljmgphgmklcaa.Q9Arr Go.Proofs.Ytlljmgphgmklcaa.Q9List Go.Proofs.Ytlljmgphgmklcaa.Q9Mail Go.Proofs.Ytlljmgphgmklcaa.QUp Go.Proofs.Ytlljmgphgmklcaa.QAll Go.Proofs.Ytlljmgphgmklcaa.QLoop Go.Proofs.Ytlljmgphgmklcaa.PMail Go.Proofs.Ytlljmgphgmklcaa.PIntA10 Go.Proofs.Ytlljmgphgmklcaa.GoA

theorem latest_eq {fuel : Nat} {l : List Mail} (hg : goodM l = true) {p : Int} (hp : 0 ≤ p ∧ p ≤ 9) (b : Int) (hf : 20 < fuel) : GiLatestMinutes.P fuel l p b = some (toA (lateM l p b)) := by
  have hlen := m_len hg
  simp only [GiLatestMinutes.P, filled_eq, Option.bind_some, un_eq, letK]
  rw [ten (by simp), idx_at (by simp) hp, Option.bind_some, wrap_in (by omega) (by omega)]
  refine lp_is (n := l.length) _ (fun k (s : List Int × Int) => s = (lateM (l.drop (l.length - k)) p b, (l.length : Int) - 1 - (k : Int))) ?_ ?_ fuel 0 _ (by omega) (by omega) ?_
  · intro k s nx hk hI hn
    subst hI
    have hq : l.length - k - 1 < l.length := by omega
    have hx : l[l.length - k - 1]? = some l[l.length - k - 1] := List.getElem?_eq_getElem hq
    have hi : idx l ((l.length : Int) - 1 - (k : Int)) = some l[l.length - k - 1] := by
      rw [show (l.length : Int) - 1 - (k : Int) = ((l.length - k - 1 : Nat) : Int) by omega, idx_nat, hx]
    have hd : lateM (l.drop (l.length - (k + 1))) p b = stepL l[l.length - k - 1] (lateM (l.drop (l.length - k)) p b) := by
      unfold lateM
      rw [show l.length - (k + 1) = l.length - k - 1 by omega, List.drop_eq_getElem_cons hq, List.foldr_cons, show l.length - k - 1 + 1 = l.length - k by omega]
    have hok := okM_of (m_ok hg hx)
    have h0 : (0 : Int) ≤ (l.length : Int) - 1 - (k : Int) := by omega
    simp only [GiLatestMinutes.l0, unp2_mk, letK, decide_eq_true h0, iteK_if, if_true, hi, Option.bind_some]
    have hn2 := hn (stepL l[l.length - k - 1] (lateM (l.drop (l.length - k)) p b), (l.length : Int) - 1 - (k : Int) - 1) (by rw [hd]; congr 1; omega)
    revert hok hn2
    generalize l[l.length - k - 1] = x
    intro hok hn2
    obtain ⟨c, d, e, g⟩ := x
    dsimp only at hok
    simp only [unMail, idx_at (late_len _ p b) hok.2.1, idx_at (late_len _ p b) hok.1, Option.bind_some]
    rw [wrap_in (by omega) (by omega)]
    unfold stepL at hn2
    dsimp only at hn2
    by_cases h : g ≤ at_ (lateM (l.drop (l.length - k)) p b) e
    · rw [if_pos h] at hn2; rw [if_pos (by simpa using h)]; exact hn2
    · rw [if_neg h] at hn2; rw [if_neg (by simpa using h)]; exact hn2
  · intro s nx hI
    subst hI
    have h0 : ¬ (0 : Int) ≤ (l.length : Int) - 1 - (l.length : Int) := by omega
    simp only [GiLatestMinutes.l0, unp2_mk, letK, decide_eq_false h0, iteK_if, Bool.false_eq_true, if_false, appK, GiLatestMinutes.e0, Nat.sub_self, List.drop_zero]
    rfl
  · simp [lateM]; rfl
end Go.Proofs.Ytlljmgphgmklcaa.Q9Late

