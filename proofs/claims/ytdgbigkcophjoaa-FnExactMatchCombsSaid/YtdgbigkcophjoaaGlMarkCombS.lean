/- loop.example/g01062/laws.markCombS as a plain function, and the contract of the program's: where the plain one has an answer, the program has it. Conditions: slices read as lists. -/
import Derived.Test.YtdgbigkcophjoaaChecked
import Derived.Test.YtdgbigkcophjoaaGoM
import Derived.Test.YtdgbigkcophjoaaGoRComb
import Derived.Test.YtdgbigkcophjoaaOComb
import Derived.WalkKit
import Derived.WalkSpells
import Derived.WalkLawsBesides
import Derived.BigQuiet
import Derived.OwnWalk
import Derived.Deep.LoopGhost
import Derived.Deep.QuietTactic
import Derived.IntWalk
import Derived.Lib.QuietBelow
namespace Go.Proofs.Ytdgbigkcophjoaa.GlMarkCombS
set_option linter.unusedVariables false
set_option linter.unusedSimpArgs false
open Go.RowKit
open Go.Proofs.Ytdgbigkcophjoaa.Rowed Go.Proofs.Ytdgbigkcophjoaa.Turn Go.Proofs.Ytdgbigkcophjoaa.Aid Go.Proofs.Ytdgbigkcophjoaa.GoP Go.Proofs.Ytdgbigkcophjoaa.GoM

def l0  (k0 : Nat) (s : (List Go.Proofs.Ytdgbigkcophjoaa.PComb.Comb) × Int) (nx0 bk0 : (List Go.Proofs.Ytdgbigkcophjoaa.PComb.Comb) × Int → Option (Int × (List Go.Proofs.Ytdgbigkcophjoaa.PComb.Comb))) : Option (Int × (List Go.Proofs.Ytdgbigkcophjoaa.PComb.Comb)) :=
  unp2 s fun a_0l0 k_1l0 =>
  Option.bind (idx a_0l0 (k0 : Int)) fun (yt_9 : Go.Proofs.Ytdgbigkcophjoaa.PComb.Comb) =>
  unComb yt_9 fun (t_9_id : Int) (t_9_wide : Int) (t_9_high : Int) (t_9_line : Bool) =>
  letK (a_0l0.set k0 (Go.Proofs.Ytdgbigkcophjoaa.PComb.Comb.mk k_1l0 t_9_wide t_9_high t_9_line)) fun (l11_11 : (List Go.Proofs.Ytdgbigkcophjoaa.PComb.Comb)) =>
  letK (IntKind.i64.wrap (k_1l0 + 1)) fun (t_13 : Int) =>
  Option.bind (idx l11_11 (k0 : Int)) fun (yt_18 : Go.Proofs.Ytdgbigkcophjoaa.PComb.Comb) =>
  unComb yt_18 fun (t_18_id : Int) (t_18_wide : Int) (t_18_high : Int) (t_18_line : Bool) =>
  letK (l11_11.set k0 (Go.Proofs.Ytdgbigkcophjoaa.PComb.Comb.mk t_18_id t_13 t_18_high t_18_line)) fun (l20_20 : (List Go.Proofs.Ytdgbigkcophjoaa.PComb.Comb)) =>
  letK (IntKind.i64.wrap (t_13 + 1)) fun (t_22 : Int) =>
  Option.bind (idx l20_20 (k0 : Int)) fun (yt_27 : Go.Proofs.Ytdgbigkcophjoaa.PComb.Comb) =>
  unComb yt_27 fun (t_27_id : Int) (t_27_wide : Int) (t_27_high : Int) (t_27_line : Bool) =>
  letK (l20_20.set k0 (Go.Proofs.Ytdgbigkcophjoaa.PComb.Comb.mk t_27_id t_27_wide t_22 t_27_line)) fun (l29_29 : (List Go.Proofs.Ytdgbigkcophjoaa.PComb.Comb)) =>
  letK (IntKind.i64.wrap (t_22 + 1)) fun (t_31 : Int) =>
  letK (Int.tmod t_31 3) fun (t_36 : Int) =>
  letK (t_36 == 0) fun (t_37 : Bool) =>
  Option.bind (idx l29_29 (k0 : Int)) fun (yt_38 : Go.Proofs.Ytdgbigkcophjoaa.PComb.Comb) =>
  unComb yt_38 fun (t_38_id : Int) (t_38_wide : Int) (t_38_high : Int) (t_38_line : Bool) =>
  letK (l29_29.set k0 (Go.Proofs.Ytdgbigkcophjoaa.PComb.Comb.mk t_38_id t_38_wide t_38_high t_37)) fun (l40_40 : (List Go.Proofs.Ytdgbigkcophjoaa.PComb.Comb)) =>
  letK (IntKind.i64.wrap (t_31 + 1)) fun (t_42 : Int) =>
  appK nx0 (l40_40, t_42)

def e0  (s : (List Go.Proofs.Ytdgbigkcophjoaa.PComb.Comb) × Int) : Option (Int × (List Go.Proofs.Ytdgbigkcophjoaa.PComb.Comb)) :=
  unp2 s fun a_0l0 k_1l0 =>
  some (k_1l0, a_0l0)

def P (a : (List Go.Proofs.Ytdgbigkcophjoaa.PComb.Comb)) (k_1 : Int) : Option (Int × (List Go.Proofs.Ytdgbigkcophjoaa.PComb.Comb)) :=
  cntK (l0 ) (a.length) 0 (a, k_1) (e0 )

set_option maxRecDepth 100000 in
set_option maxHeartbeats 2000000 in
theorem C (a : (List Go.Proofs.Ytdgbigkcophjoaa.PComb.Comb)) (k_1 : Int) (A0 : Option Addr) (c0 : Nat)  (b0 : Nat) (w : World) (M0 : Hid (w.ownsRow b0 101 4 (.slice A0 a.length c0) a.length (Go.Proofs.Ytdgbigkcophjoaa.PComb.flat a))) (N0 : Hid (a.length ≤ 9223372036854775807))  {r : Int} {l_ : (List Go.Proofs.Ytdgbigkcophjoaa.PComb.Comb)} (H : Hid (P a k_1 = some (r, l_))) :
    Calls Try.prog 53 #[.slice A0 a.length c0, .int .i64 k_1] w (fun e w' => e = .returned (.int .i64 r) ∧ w'.ownsRow b0 101 4 (.slice A0 a.length c0) a.length (Go.Proofs.Ytdgbigkcophjoaa.PComb.flat l_) ∧ l_.length = a.length ∧ w.grownBy w' (Value.slice A0 a.length c0).ownBlock) := by
  have HB := Lib.hid (Aid.grown_refl w (Value.slice A0 a.length c0).ownBlock)
  unfold P at H
  have N0o := N0.out
  go_enter Try.func53, Try.ntmps53
  go_wp2_with fail
  have hb_0 : a.length ≤ 9223372036854775807 := own_max M0.out
  go_wp2_with fail
  go_loopg [5, 1] (a.length) (fun m_ v5_ v1_ wr => ∃ (k0 : Nat) (a_0l0 : (List Go.Proofs.Ytdgbigkcophjoaa.PComb.Comb)) (k_1l0 : Int), k0 + m_ = a.length ∧ v5_ = .int .i64 (k0 : Int) ∧ v1_ = .int .i64 k_1l0 ∧ Hid (cntK (l0 ) m_ k0 (a_0l0, k_1l0) (e0 ) = some (r, l_)) ∧ Hid (w.grownBy wr (Value.slice A0 a.length c0).ownBlock) ∧ Hid (wr.ownsRow b0 101 4 (.slice A0 a.length c0) a.length (Go.Proofs.Ytdgbigkcophjoaa.PComb.flat a_0l0)) ∧ Hid (a_0l0.length = a.length))
  case atStart => exact ⟨0, _, _, by omega, rfl, rfl, H, HB, M0, Lib.hid (rfl)⟩
  case round =>
    obtain ⟨k0, a_0l0, k_1l0, hkm0, rfl, rfl, H, HBwr0, Oa_0l0, hna_0l0⟩ := hrel
    rename World => wr0
    cases gk with
    | zero =>
      obtain rfl : k0 = a.length := by omega
      have hc0 : decide (((a.length : Nat) : Int) < ((a.length : Nat) : Int)) = false := by simp
      replace H := cnt_zero H
      unfold e0 at H
      replace H := unp2_hid H
      cases ret_hid H
      go_wp2_with fail
      go_ret
      exact ⟨rfl, Oa_0l0.out, hna_0l0.out, HBwr0.out⟩
    | succ m0 =>
      have hlt0 : k0 < a.length := by omega
      have hc0 : decide ((k0 : Int) < ((a.length : Nat) : Int)) = true := by simp; omega
      replace H := cnt_succ H
      unfold l0 at H
      replace H := unp2_hid H
      replace H := idx_hid H
      obtain ⟨nt_9, yt_9, et_9, lt_9, gt_9, H⟩ := H
      obtain rfl : k0 = nt_9 := by omega
      clear et_9
      obtain ⟨t_9_id, t_9_wide, t_9_high, t_9_line⟩ := yt_9
      replace H := unComb_hid H
      have hqt_9 := hna_0l0.out
      obtain ⟨qt_9, Qt_9⟩ := own_some Oa_0l0.out (by omega)
      subst Qt_9
      obtain ⟨ab_t_9, ao_t_9, zt_9, At_9, z_t_9, ct_9_0, ct_9_1, ct_9_2, ct_9_3⟩ := Go.Proofs.Ytdgbigkcophjoaa.OComb.at_ (own_cells Oa_0l0.out) (k := k0) (by omega)
      obtain rfl := Option.some.inj (gt_9.out.symm.trans z_t_9)
      simp only [Option.some.injEq, Addr.mk.injEq] at At_9
      obtain ⟨rfl, rfl, _⟩ := At_9
      clear z_t_9
      simp only [Nat.zero_add] at ct_9_0 ct_9_1 ct_9_2 ct_9_3
      have b0t_9 : (0 : Int) ≤ (k0 : Int) := by omega
      have b1t_9 : (k0 : Int) < ((a.length : Nat) : Int) := by omega
      have b2t_9 : ((k0 : Int)).toNat = k0 := by omega
      clear hqt_9
      replace H := let_hid H
      obtain ⟨l11_11, hl11_11, H⟩ := H
      obtain ⟨wl11_11, hwl11_11⟩ : ∃ x, (wr0).setCell ⟨qt_9, k0 * 4, none⟩ (.int .i64 k_1l0) = x := ⟨_, rfl⟩
      have z0l11_11 := Oa_0l0.out.frozenAt (k0 * 4)
      have Sl11_11 := Lib.hid (own_stores [(k0 * 4, .int .i64 k_1l0)] Oa_0l0.out)
      have nl11_11 : Hid (l11_11.length = a.length) := Lib.hid (by rw [← hl11_11, List.length_set]; exact hna_0l0.out)
      have Pl11_11 : Hid (wl11_11.ownsRow b0 101 4 (.slice (some ⟨qt_9, 0, none⟩) a.length c0) a.length (Go.Proofs.Ytdgbigkcophjoaa.PComb.flat l11_11)) := Lib.hid (by have es_ := set_self gt_9.out; have e0_ := flat_set Go.Proofs.Ytdgbigkcophjoaa.PComb.Comb.cells 4 (fun _ => rfl) a_0l0 (k0) 0 (Go.Proofs.Ytdgbigkcophjoaa.PComb.Comb.mk t_9_id t_9_wide t_9_high t_9_line) (Go.Proofs.Ytdgbigkcophjoaa.PComb.Comb.mk k_1l0 t_9_wide t_9_high t_9_line) (.int .i64 k_1l0) lt_9 (by decide) rfl; rw [es_] at e0_; have e_ : ([(k0 * 4, .int .i64 k_1l0)] : List (Nat × Value)).foldl (fun xs p => xs.set p.1 p.2) (Go.Proofs.Ytdgbigkcophjoaa.PComb.flat a_0l0) = (Go.Proofs.Ytdgbigkcophjoaa.PComb.flat l11_11) := (by rw [← hl11_11]; show _ = List.flatMap Go.Proofs.Ytdgbigkcophjoaa.PComb.Comb.cells _; rw [← e0_]; first | done | rfl); rw [← hwl11_11, ← e_]; exact Sl11_11.out.1)
      have Gl11_11 : Hid (wr0.grownBy wl11_11 (Value.slice (some ⟨qt_9, 0, none⟩) a.length c0).ownBlock) := Lib.hid (by rw [← hwl11_11]; exact Sl11_11.out.2)
      have HBwl11_11 := Lib.hid (Aid.grown_tr HBwr0.out Gl11_11.out)
      have hhl11_11 := Lib.hid hl11_11
      clear hl11_11 Sl11_11
      clear Oa_0l0 Gl11_11
      replace H := let_hid H
      obtain ⟨t_13, ht_13, H⟩ := H
      replace H := idx_hid H
      obtain ⟨nt_18, yt_18, et_18, lt_18, gt_18, H⟩ := H
      obtain rfl : k0 = nt_18 := by omega
      clear et_18
      obtain ⟨t_18_id, t_18_wide, t_18_high, t_18_line⟩ := yt_18
      replace H := unComb_hid H
      have hqt_18 := nl11_11.out
      obtain ⟨ab_t_18, ao_t_18, zt_18, At_18, z_t_18, ct_18_0, ct_18_1, ct_18_2, ct_18_3⟩ := Go.Proofs.Ytdgbigkcophjoaa.OComb.at_ (own_cells Pl11_11.out) (k := k0) (by omega)
      obtain rfl := Option.some.inj (gt_18.out.symm.trans z_t_18)
      simp only [Option.some.injEq, Addr.mk.injEq] at At_18
      obtain ⟨rfl, rfl, _⟩ := At_18
      clear z_t_18
      simp only [Nat.zero_add] at ct_18_0 ct_18_1 ct_18_2 ct_18_3
      have b0t_18 : (0 : Int) ≤ (k0 : Int) := by omega
      have b1t_18 : (k0 : Int) < ((a.length : Nat) : Int) := by omega
      have b2t_18 : ((k0 : Int)).toNat = k0 := by omega
      clear hqt_18
      replace H := let_hid H
      obtain ⟨l20_20, hl20_20, H⟩ := H
      obtain ⟨wl20_20, hwl20_20⟩ : ∃ x, (wl11_11).setCell ⟨qt_9, k0 * 4 + 1, none⟩ (.int .i64 t_13) = x := ⟨_, rfl⟩
      have z0l20_20 := Pl11_11.out.frozenAt (k0 * 4 + 1)
      have Sl20_20 := Lib.hid (own_stores [(k0 * 4 + 1, .int .i64 t_13)] Pl11_11.out)
      have nl20_20 : Hid (l20_20.length = a.length) := Lib.hid (by rw [← hl20_20, List.length_set]; exact nl11_11.out)
      have Pl20_20 : Hid (wl20_20.ownsRow b0 101 4 (.slice (some ⟨qt_9, 0, none⟩) a.length c0) a.length (Go.Proofs.Ytdgbigkcophjoaa.PComb.flat l20_20)) := Lib.hid (by have es_ := set_self gt_18.out; have e0_ := flat_set Go.Proofs.Ytdgbigkcophjoaa.PComb.Comb.cells 4 (fun _ => rfl) l11_11 (k0) 1 (Go.Proofs.Ytdgbigkcophjoaa.PComb.Comb.mk t_18_id t_18_wide t_18_high t_18_line) (Go.Proofs.Ytdgbigkcophjoaa.PComb.Comb.mk t_18_id t_13 t_18_high t_18_line) (.int .i64 t_13) lt_18 (by decide) rfl; rw [es_] at e0_; have e_ : ([(k0 * 4 + 1, .int .i64 t_13)] : List (Nat × Value)).foldl (fun xs p => xs.set p.1 p.2) (Go.Proofs.Ytdgbigkcophjoaa.PComb.flat l11_11) = (Go.Proofs.Ytdgbigkcophjoaa.PComb.flat l20_20) := (by rw [← hl20_20]; show _ = List.flatMap Go.Proofs.Ytdgbigkcophjoaa.PComb.Comb.cells _; rw [← e0_]; first | done | rfl); rw [← hwl20_20, ← e_]; exact Sl20_20.out.1)
      have Gl20_20 : Hid (wl11_11.grownBy wl20_20 (Value.slice (some ⟨qt_9, 0, none⟩) a.length c0).ownBlock) := Lib.hid (by rw [← hwl20_20]; exact Sl20_20.out.2)
      have HBwl20_20 := Lib.hid (Aid.grown_tr HBwl11_11.out Gl20_20.out)
      have hhl20_20 := Lib.hid hl20_20
      clear hl20_20 Sl20_20
      clear Pl11_11 Gl20_20
      replace H := let_hid H
      obtain ⟨t_22, ht_22, H⟩ := H
      replace H := idx_hid H
      obtain ⟨nt_27, yt_27, et_27, lt_27, gt_27, H⟩ := H
      obtain rfl : k0 = nt_27 := by omega
      clear et_27
      obtain ⟨t_27_id, t_27_wide, t_27_high, t_27_line⟩ := yt_27
      replace H := unComb_hid H
      have hqt_27 := nl20_20.out
      obtain ⟨ab_t_27, ao_t_27, zt_27, At_27, z_t_27, ct_27_0, ct_27_1, ct_27_2, ct_27_3⟩ := Go.Proofs.Ytdgbigkcophjoaa.OComb.at_ (own_cells Pl20_20.out) (k := k0) (by omega)
      obtain rfl := Option.some.inj (gt_27.out.symm.trans z_t_27)
      simp only [Option.some.injEq, Addr.mk.injEq] at At_27
      obtain ⟨rfl, rfl, _⟩ := At_27
      clear z_t_27
      simp only [Nat.zero_add] at ct_27_0 ct_27_1 ct_27_2 ct_27_3
      have b0t_27 : (0 : Int) ≤ (k0 : Int) := by omega
      have b1t_27 : (k0 : Int) < ((a.length : Nat) : Int) := by omega
      have b2t_27 : ((k0 : Int)).toNat = k0 := by omega
      clear hqt_27
      replace H := let_hid H
      obtain ⟨l29_29, hl29_29, H⟩ := H
      obtain ⟨wl29_29, hwl29_29⟩ : ∃ x, (wl20_20).setCell ⟨qt_9, k0 * 4 + 2, none⟩ (.int .i64 t_22) = x := ⟨_, rfl⟩
      have z0l29_29 := Pl20_20.out.frozenAt (k0 * 4 + 2)
      have Sl29_29 := Lib.hid (own_stores [(k0 * 4 + 2, .int .i64 t_22)] Pl20_20.out)
      have nl29_29 : Hid (l29_29.length = a.length) := Lib.hid (by rw [← hl29_29, List.length_set]; exact nl20_20.out)
      have Pl29_29 : Hid (wl29_29.ownsRow b0 101 4 (.slice (some ⟨qt_9, 0, none⟩) a.length c0) a.length (Go.Proofs.Ytdgbigkcophjoaa.PComb.flat l29_29)) := Lib.hid (by have es_ := set_self gt_27.out; have e0_ := flat_set Go.Proofs.Ytdgbigkcophjoaa.PComb.Comb.cells 4 (fun _ => rfl) l20_20 (k0) 2 (Go.Proofs.Ytdgbigkcophjoaa.PComb.Comb.mk t_27_id t_27_wide t_27_high t_27_line) (Go.Proofs.Ytdgbigkcophjoaa.PComb.Comb.mk t_27_id t_27_wide t_22 t_27_line) (.int .i64 t_22) lt_27 (by decide) rfl; rw [es_] at e0_; have e_ : ([(k0 * 4 + 2, .int .i64 t_22)] : List (Nat × Value)).foldl (fun xs p => xs.set p.1 p.2) (Go.Proofs.Ytdgbigkcophjoaa.PComb.flat l20_20) = (Go.Proofs.Ytdgbigkcophjoaa.PComb.flat l29_29) := (by rw [← hl29_29]; show _ = List.flatMap Go.Proofs.Ytdgbigkcophjoaa.PComb.Comb.cells _; rw [← e0_]; first | done | rfl); rw [← hwl29_29, ← e_]; exact Sl29_29.out.1)
      have Gl29_29 : Hid (wl20_20.grownBy wl29_29 (Value.slice (some ⟨qt_9, 0, none⟩) a.length c0).ownBlock) := Lib.hid (by rw [← hwl29_29]; exact Sl29_29.out.2)
      have HBwl29_29 := Lib.hid (Aid.grown_tr HBwl20_20.out Gl29_29.out)
      have hhl29_29 := Lib.hid hl29_29
      clear hl29_29 Sl29_29
      clear Pl20_20 Gl29_29
      replace H := let_hid H
      obtain ⟨t_31, ht_31, H⟩ := H
      replace H := let_hid H
      obtain ⟨t_36, ht_36, H⟩ := H
      replace H := let_hid H
      obtain ⟨t_37, ht_37, H⟩ := H
      replace H := idx_hid H
      obtain ⟨nt_38, yt_38, et_38, lt_38, gt_38, H⟩ := H
      obtain rfl : k0 = nt_38 := by omega
      clear et_38
      obtain ⟨t_38_id, t_38_wide, t_38_high, t_38_line⟩ := yt_38
      replace H := unComb_hid H
      have hqt_38 := nl29_29.out
      obtain ⟨ab_t_38, ao_t_38, zt_38, At_38, z_t_38, ct_38_0, ct_38_1, ct_38_2, ct_38_3⟩ := Go.Proofs.Ytdgbigkcophjoaa.OComb.at_ (own_cells Pl29_29.out) (k := k0) (by omega)
      obtain rfl := Option.some.inj (gt_38.out.symm.trans z_t_38)
      simp only [Option.some.injEq, Addr.mk.injEq] at At_38
      obtain ⟨rfl, rfl, _⟩ := At_38
      clear z_t_38
      simp only [Nat.zero_add] at ct_38_0 ct_38_1 ct_38_2 ct_38_3
      have b0t_38 : (0 : Int) ≤ (k0 : Int) := by omega
      have b1t_38 : (k0 : Int) < ((a.length : Nat) : Int) := by omega
      have b2t_38 : ((k0 : Int)).toNat = k0 := by omega
      clear hqt_38
      replace H := let_hid H
      obtain ⟨l40_40, hl40_40, H⟩ := H
      obtain ⟨wl40_40, hwl40_40⟩ : ∃ x, (wl29_29).setCell ⟨qt_9, k0 * 4 + 3, none⟩ (.bool t_37) = x := ⟨_, rfl⟩
      have z0l40_40 := Pl29_29.out.frozenAt (k0 * 4 + 3)
      have Sl40_40 := Lib.hid (own_stores [(k0 * 4 + 3, .bool t_37)] Pl29_29.out)
      have nl40_40 : Hid (l40_40.length = a.length) := Lib.hid (by rw [← hl40_40, List.length_set]; exact nl29_29.out)
      have Pl40_40 : Hid (wl40_40.ownsRow b0 101 4 (.slice (some ⟨qt_9, 0, none⟩) a.length c0) a.length (Go.Proofs.Ytdgbigkcophjoaa.PComb.flat l40_40)) := Lib.hid (by have es_ := set_self gt_38.out; have e0_ := flat_set Go.Proofs.Ytdgbigkcophjoaa.PComb.Comb.cells 4 (fun _ => rfl) l29_29 (k0) 3 (Go.Proofs.Ytdgbigkcophjoaa.PComb.Comb.mk t_38_id t_38_wide t_38_high t_38_line) (Go.Proofs.Ytdgbigkcophjoaa.PComb.Comb.mk t_38_id t_38_wide t_38_high t_37) (.bool t_37) lt_38 (by decide) rfl; rw [es_] at e0_; have e_ : ([(k0 * 4 + 3, .bool t_37)] : List (Nat × Value)).foldl (fun xs p => xs.set p.1 p.2) (Go.Proofs.Ytdgbigkcophjoaa.PComb.flat l29_29) = (Go.Proofs.Ytdgbigkcophjoaa.PComb.flat l40_40) := (by rw [← hl40_40]; show _ = List.flatMap Go.Proofs.Ytdgbigkcophjoaa.PComb.Comb.cells _; rw [← e0_]; first | done | rfl); rw [← hwl40_40, ← e_]; exact Sl40_40.out.1)
      have Gl40_40 : Hid (wl29_29.grownBy wl40_40 (Value.slice (some ⟨qt_9, 0, none⟩) a.length c0).ownBlock) := Lib.hid (by rw [← hwl40_40]; exact Sl40_40.out.2)
      have HBwl40_40 := Lib.hid (Aid.grown_tr HBwl29_29.out Gl40_40.out)
      have hhl40_40 := Lib.hid hl40_40
      clear hl40_40 Sl40_40
      clear Pl29_29 Gl40_40
      replace H := let_hid H
      obtain ⟨t_42, ht_42, H⟩ := H
      replace H := app_hid H
      go_wp2_with fail
      clear z0l11_11 ct_9_0 ct_9_1 ct_9_2 ct_9_3 z0l20_20 ct_18_0 ct_18_1 ct_18_2 ct_18_3 z0l29_29 ct_27_0 ct_27_1 ct_27_2 ct_27_3 z0l40_40 ct_38_0 ct_38_1 ct_38_2 ct_38_3
      go_roundg m0
      case measure => omega
      case rel => exact ⟨k0 + 1, _, _, by omega, by go_num, rfl, H, HBwl40_40, Pl40_40, Lib.hid (nl40_40.out)⟩
end Go.Proofs.Ytdgbigkcophjoaa.GlMarkCombS
