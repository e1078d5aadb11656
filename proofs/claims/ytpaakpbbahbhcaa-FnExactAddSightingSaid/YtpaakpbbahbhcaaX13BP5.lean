/- Texts on which the proofs of several laws stand, one behind the other (5 of 6). No condition of their own. -/
import Derived.Test.YtpaakpbbahbhcaaChecked
import Derived.Test.YtpaakpbbahbhcaaX13BP1
import Derived.Test.YtpaakpbbahbhcaaX13BP4
import Derived.WalkKit
import Derived.WalkSpells
import Derived.WalkLawsBesides
import Derived.BigQuiet
import Derived.OwnWalk
import Derived.Deep.LoopGhost
import Derived.Deep.QuietTactic
import Derived.IntWalk
import Derived.Lib.QuietBelow
import Derived.Test.YtpaakpbbahbhcaaX13BP2
import Derived.Test.YtpaakpbbahbhcaaX13BP3
/- loop.example/g01062/laws.markSightingS as a plain function, and the contract of the program's: where the plain one has an answer, the program has it. Conditions: slices read as lists. -/
namespace Go.Proofs.Ytpaakpbbahbhcaa.GlMarkSightingS
set_option linter.unusedVariables false
set_option linter.unusedSimpArgs false
open Go.RowKit
open Go.Proofs.Ytpaakpbbahbhcaa.Rowed Go.Proofs.Ytpaakpbbahbhcaa.Turn Go.Proofs.Ytpaakpbbahbhcaa.Aid Go.Proofs.Ytpaakpbbahbhcaa.GoP Go.Proofs.Ytpaakpbbahbhcaa.GoM

def l0  (k0 : Nat) (s : (List Go.Proofs.Ytpaakpbbahbhcaa.PSighting.Sighting) × Int) (nx0 bk0 : (List Go.Proofs.Ytpaakpbbahbhcaa.PSighting.Sighting) × Int → Option (Int × (List Go.Proofs.Ytpaakpbbahbhcaa.PSighting.Sighting))) : Option (Int × (List Go.Proofs.Ytpaakpbbahbhcaa.PSighting.Sighting)) :=
  unp2 s fun a_0l0 k_1l0 =>
  Option.bind (idx a_0l0 (k0 : Int)) fun (yt_9 : Go.Proofs.Ytpaakpbbahbhcaa.PSighting.Sighting) =>
  unSighting yt_9 fun (t_9_id : Int) (t_9_year : Int) (t_9_town : ByteArray) (t_9_traits : (List Int)) =>
  letK (a_0l0.set k0 (Go.Proofs.Ytpaakpbbahbhcaa.PSighting.Sighting.mk k_1l0 t_9_year t_9_town t_9_traits)) fun (l11_11 : (List Go.Proofs.Ytpaakpbbahbhcaa.PSighting.Sighting)) =>
  letK (IntKind.i64.wrap (k_1l0 + 1)) fun (t_13 : Int) =>
  Option.bind (idx l11_11 (k0 : Int)) fun (yt_18 : Go.Proofs.Ytpaakpbbahbhcaa.PSighting.Sighting) =>
  unSighting yt_18 fun (t_18_id : Int) (t_18_year : Int) (t_18_town : ByteArray) (t_18_traits : (List Int)) =>
  letK (l11_11.set k0 (Go.Proofs.Ytpaakpbbahbhcaa.PSighting.Sighting.mk t_18_id t_13 t_18_town t_18_traits)) fun (l20_20 : (List Go.Proofs.Ytpaakpbbahbhcaa.PSighting.Sighting)) =>
  letK (IntKind.i64.wrap (t_13 + 1)) fun (t_22 : Int) =>
  Option.bind (Go.Proofs.Ytpaakpbbahbhcaa.GlMarkText.P t_22) fun (t_27 : ByteArray) =>
  Option.bind (idx l20_20 (k0 : Int)) fun (yt_28 : Go.Proofs.Ytpaakpbbahbhcaa.PSighting.Sighting) =>
  unSighting yt_28 fun (t_28_id : Int) (t_28_year : Int) (t_28_town : ByteArray) (t_28_traits : (List Int)) =>
  letK (l20_20.set k0 (Go.Proofs.Ytpaakpbbahbhcaa.PSighting.Sighting.mk t_28_id t_28_year t_27 t_28_traits)) fun (l30_30 : (List Go.Proofs.Ytpaakpbbahbhcaa.PSighting.Sighting)) =>
  letK (IntKind.i64.wrap (t_22 + 1)) fun (t_32 : Int) =>
  Option.bind (idx l30_30 (k0 : Int)) fun (yt_36 : Go.Proofs.Ytpaakpbbahbhcaa.PSighting.Sighting) =>
  unSighting yt_36 fun (t_36_id : Int) (t_36_year : Int) (t_36_town : ByteArray) (t_36_traits : (List Int)) =>
  bind2 (Go.Proofs.Ytpaakpbbahbhcaa.GlMarkIntS.P t_36_traits t_32) fun (t_40 : Int) (lt_40 : (List Int)) =>
  letK (l30_30.set k0 (Go.Proofs.Ytpaakpbbahbhcaa.PSighting.Sighting.mk t_36_id t_36_year t_36_town lt_40)) fun (nnt_40 : (List Go.Proofs.Ytpaakpbbahbhcaa.PSighting.Sighting)) =>
  appK nx0 (nnt_40, t_40)

def e0  (s : (List Go.Proofs.Ytpaakpbbahbhcaa.PSighting.Sighting) × Int) : Option (Int × (List Go.Proofs.Ytpaakpbbahbhcaa.PSighting.Sighting)) :=
  unp2 s fun a_0l0 k_1l0 =>
  some (k_1l0, a_0l0)

def P (a : (List Go.Proofs.Ytpaakpbbahbhcaa.PSighting.Sighting)) (k_1 : Int) : Option (Int × (List Go.Proofs.Ytpaakpbbahbhcaa.PSighting.Sighting)) :=
  cntK (l0 ) (a.length) 0 (a, k_1) (e0 )

set_option maxRecDepth 100000 in
set_option maxHeartbeats 2000000 in
theorem C (a : (List Go.Proofs.Ytpaakpbbahbhcaa.PSighting.Sighting)) (k_1 : Int) (A0 : Option Addr) (c0 : Nat)  (b0 : Nat) (B0 : List (Option Addr)) (w : World) (M0 : Hid (Go.Proofs.Ytpaakpbbahbhcaa.GoV.OwnNest w (b0) 67 3 Go.Proofs.Ytpaakpbbahbhcaa.GoVSighting.lay A0 c0 a B0)) (N0 : Hid (a.length ≤ 9223372036854775807))  {r : Int} {l_ : (List Go.Proofs.Ytpaakpbbahbhcaa.PSighting.Sighting)} (H : Hid (P a k_1 = some (r, l_))) :
    Calls Try.prog 34 #[.slice A0 a.length c0, .int .i64 k_1] w (fun e w' => e = .returned (.int .i64 r) ∧ Go.Proofs.Ytpaakpbbahbhcaa.GoV.OwnNest w' (b0) 67 3 Go.Proofs.Ytpaakpbbahbhcaa.GoVSighting.lay A0 c0 l_ B0 ∧ l_.length = a.length ∧ Go.Proofs.Ytpaakpbbahbhcaa.GoN.GrownN w w' B0) := by
  have HB := Lib.hid (Go.Proofs.Ytpaakpbbahbhcaa.GoN.grownN_refl w B0)
  unfold P at H
  have N0o := N0.out
  go_enter Try.func34, Try.ntmps34
  go_wp2_with fail
  have hb_0 : a.length ≤ 9223372036854775807 := Go.Proofs.Ytpaakpbbahbhcaa.GoV.nest_max M0.out
  go_wp2_with fail
  go_loopg [5, 1] (a.length) (fun m_ v5_ v1_ wr => ∃ (k0 : Nat) (a_0l0 : (List Go.Proofs.Ytpaakpbbahbhcaa.PSighting.Sighting)) (k_1l0 : Int), k0 + m_ = a.length ∧ v5_ = .int .i64 (k0 : Int) ∧ v1_ = .int .i64 k_1l0 ∧ Hid (cntK (l0 ) m_ k0 (a_0l0, k_1l0) (e0 ) = some (r, l_)) ∧ Hid (Go.Proofs.Ytpaakpbbahbhcaa.GoN.GrownN w wr B0) ∧ Hid (Go.Proofs.Ytpaakpbbahbhcaa.GoV.OwnNest wr (b0) 67 3 Go.Proofs.Ytpaakpbbahbhcaa.GoVSighting.lay A0 c0 a_0l0 B0) ∧ Hid (a_0l0.length = a.length))
  case atStart => exact ⟨0, _, _, by omega, rfl, rfl, H, HB, M0, Lib.hid (rfl)⟩
  case round =>
    obtain ⟨k0, a_0l0, k_1l0, hkm0, rfl, rfl, H, HBwr0, Oa_0l0, hna_0l0⟩ := hrel
    rename World => wr0
    cases gk with
    | zero =>
      obtain rfl : k0 = a.length := by omega
      have hc0 : decide (((a.length : Nat) : Int) < ((a.length : Nat) : Int)) = false := by simp
      replace H := cnt_zero H
      unfold e0 at H
      replace H := unp2_hid H
      cases ret_hid H
      go_wp2_with fail
      go_ret
      exact ⟨rfl, Oa_0l0.out, hna_0l0.out, HBwr0.out⟩
    | succ m0 =>
      have hlt0 : k0 < a.length := by omega
      have hc0 : decide ((k0 : Int) < ((a.length : Nat) : Int)) = true := by simp; omega
      replace H := cnt_succ H
      unfold l0 at H
      replace H := unp2_hid H
      replace H := idx_hid H
      obtain ⟨nt_9, yt_9, et_9, lt_9, gt_9, H⟩ := H
      obtain rfl : k0 = nt_9 := by omega
      clear et_9
      obtain ⟨t_9_id, t_9_year, t_9_town, t_9_traits⟩ := yt_9
      replace H := unSighting_hid H
      obtain ⟨gt_9_, zt_9, Art_9, crt_9, eAt_9, zzt_9, hKt_9, hot_9, hmt_9, hat_9⟩ := Go.Proofs.Ytpaakpbbahbhcaa.GoV.nest_own Oa_0l0.out (k := k0) lt_9
      obtain rfl := Option.some.inj (gt_9.out.symm.trans zzt_9)
      clear zzt_9
      subst eAt_9
      have hct_9_0 : wr0.cell? ⟨gt_9_, k0 * 4, none⟩ = some (.int .i64 t_9_id) := hKt_9 0 _ rfl
      have hct_9_1 : wr0.cell? ⟨gt_9_, k0 * 4 + 1, none⟩ = some (.int .i64 t_9_year) := hKt_9 1 _ rfl
      have hct_9_2 : wr0.cell? ⟨gt_9_, k0 * 4 + 2, none⟩ = some (.string t_9_town) := hKt_9 2 _ rfl
      have hct_9_3 : wr0.cell? ⟨gt_9_, k0 * 4 + 3, none⟩ = some (.slice Art_9 t_9_traits.length crt_9) := hKt_9 3 _ rfl
      clear hKt_9
      have ltt_9 := cell_lt hct_9_0
      have Ort_9 := Lib.hid hot_9
      have mrt_9 := Lib.hid hmt_9
      clear hot_9 hmt_9 hat_9
      have b0t_9 : (0 : Int) ≤ (k0 : Int) := by omega
      have b1t_9 : (k0 : Int) < ((a_0l0.length : Nat) : Int) := by omega
      have b2t_9 : ((k0 : Int)).toNat = k0 := by omega
      have hq_t_9 := hna_0l0.out
      have b4t_9 : (k0 : Int) < ((a.length : Nat) : Int) := by omega
      clear hq_t_9
      replace H := let_hid H
      obtain ⟨l11_11, hl11_11, H⟩ := H
      try simp only [Int.toNat_natCast] at hl11_11
      obtain ⟨wl11_11, hwl11_11⟩ : ∃ x, (wr0).setCell ⟨gt_9_, k0 * 4, none⟩ (.int .i64 k_1l0) = x := ⟨_, rfl⟩
      have z0l11_11 := Go.Proofs.Ytpaakpbbahbhcaa.GoV.nest_frozen Oa_0l0.out (k0 * 4)
      have nl11_11 : Hid (l11_11.length = a.length) := Lib.hid (by rw [← hl11_11, List.length_set]; exact hna_0l0.out)
      have Sl11_11 := Lib.hid (Go.Proofs.Ytpaakpbbahbhcaa.GoV.nest_set (k := k0) (j := 0) (x := (Go.Proofs.Ytpaakpbbahbhcaa.PSighting.Sighting.mk t_9_id t_9_year t_9_town t_9_traits)) (x' := (Go.Proofs.Ytpaakpbbahbhcaa.PSighting.Sighting.mk k_1l0 t_9_year t_9_town t_9_traits)) (u := .int .i64 k_1l0) Oa_0l0.out gt_9.out rfl (by decide) (fun z_ => rfl))
      have Pl11_11 : Hid (Go.Proofs.Ytpaakpbbahbhcaa.GoV.OwnNest wl11_11 (b0) 67 3 Go.Proofs.Ytpaakpbbahbhcaa.GoVSighting.lay (some ⟨gt_9_, 0, none⟩) c0 l11_11 B0) := Lib.hid (by rw [← hl11_11, ← hwl11_11]; exact Sl11_11.out.1)
      have Gl11_11 : Hid (wr0.grownBy wl11_11 (Value.slice (some ⟨gt_9_, 0, none⟩) a.length c0).ownBlock) := Lib.hid (by rw [← hwl11_11]; exact Sl11_11.out.2)
      clear Sl11_11
      have HBwl11_11 := Lib.hid (Go.Proofs.Ytpaakpbbahbhcaa.GoN.grownN_row HBwr0.out Gl11_11.out (Go.Proofs.Ytpaakpbbahbhcaa.GoV.nest_head Oa_0l0.out))
      have hhl11_11 := Lib.hid hl11_11
      clear hl11_11
      clear Oa_0l0 Gl11_11
      replace H := let_hid H
      obtain ⟨t_13, ht_13, H⟩ := H
      replace H := idx_hid H
      obtain ⟨nt_18, yt_18, et_18, lt_18, gt_18, H⟩ := H
      obtain rfl : k0 = nt_18 := by omega
      clear et_18
      obtain ⟨t_18_id, t_18_year, t_18_town, t_18_traits⟩ := yt_18
      replace H := unSighting_hid H
      obtain ⟨gt_18_, zt_18, Art_18, crt_18, eAt_18, zzt_18, hKt_18, hot_18, hmt_18, hat_18⟩ := Go.Proofs.Ytpaakpbbahbhcaa.GoV.nest_own Pl11_11.out (k := k0) lt_18
      obtain rfl := Option.some.inj (gt_18.out.symm.trans zzt_18)
      clear zzt_18
      simp only [Option.some.injEq, Addr.mk.injEq, and_true] at eAt_18
      subst eAt_18
      have hct_18_0 : wl11_11.cell? ⟨gt_9_, k0 * 4, none⟩ = some (.int .i64 t_18_id) := hKt_18 0 _ rfl
      have hct_18_1 : wl11_11.cell? ⟨gt_9_, k0 * 4 + 1, none⟩ = some (.int .i64 t_18_year) := hKt_18 1 _ rfl
      have hct_18_2 : wl11_11.cell? ⟨gt_9_, k0 * 4 + 2, none⟩ = some (.string t_18_town) := hKt_18 2 _ rfl
      have hct_18_3 : wl11_11.cell? ⟨gt_9_, k0 * 4 + 3, none⟩ = some (.slice Art_18 t_18_traits.length crt_18) := hKt_18 3 _ rfl
      clear hKt_18
      have ltt_18 := cell_lt hct_18_0
      have Ort_18 := Lib.hid hot_18
      have mrt_18 := Lib.hid hmt_18
      clear hot_18 hmt_18 hat_18
      have b0t_18 : (0 : Int) ≤ (k0 : Int) := by omega
      have b1t_18 : (k0 : Int) < ((l11_11.length : Nat) : Int) := by omega
      have b2t_18 : ((k0 : Int)).toNat = k0 := by omega
      have hq_t_18 := nl11_11.out
      have b4t_18 : (k0 : Int) < ((a.length : Nat) : Int) := by omega
      clear hq_t_18
      replace H := let_hid H
      obtain ⟨l20_20, hl20_20, H⟩ := H
      try simp only [Int.toNat_natCast] at hl20_20
      obtain ⟨wl20_20, hwl20_20⟩ : ∃ x, (wl11_11).setCell ⟨gt_9_, k0 * 4 + 1, none⟩ (.int .i64 t_13) = x := ⟨_, rfl⟩
      have z0l20_20 := Go.Proofs.Ytpaakpbbahbhcaa.GoV.nest_frozen Pl11_11.out (k0 * 4 + 1)
      have nl20_20 : Hid (l20_20.length = a.length) := Lib.hid (by rw [← hl20_20, List.length_set]; exact nl11_11.out)
      have Sl20_20 := Lib.hid (Go.Proofs.Ytpaakpbbahbhcaa.GoV.nest_set (k := k0) (j := 1) (x := (Go.Proofs.Ytpaakpbbahbhcaa.PSighting.Sighting.mk t_18_id t_18_year t_18_town t_18_traits)) (x' := (Go.Proofs.Ytpaakpbbahbhcaa.PSighting.Sighting.mk t_18_id t_13 t_18_town t_18_traits)) (u := .int .i64 t_13) Pl11_11.out gt_18.out rfl (by decide) (fun z_ => rfl))
      have Pl20_20 : Hid (Go.Proofs.Ytpaakpbbahbhcaa.GoV.OwnNest wl20_20 (b0) 67 3 Go.Proofs.Ytpaakpbbahbhcaa.GoVSighting.lay (some ⟨gt_9_, 0, none⟩) c0 l20_20 B0) := Lib.hid (by rw [← hl20_20, ← hwl20_20]; exact Sl20_20.out.1)
      have Gl20_20 : Hid (wl11_11.grownBy wl20_20 (Value.slice (some ⟨gt_9_, 0, none⟩) a.length c0).ownBlock) := Lib.hid (by rw [← hwl20_20]; exact Sl20_20.out.2)
      clear Sl20_20
      have HBwl20_20 := Lib.hid (Go.Proofs.Ytpaakpbbahbhcaa.GoN.grownN_row HBwl11_11.out Gl20_20.out (Go.Proofs.Ytpaakpbbahbhcaa.GoV.nest_head Pl11_11.out))
      have hhl20_20 := Lib.hid hl20_20
      clear hl20_20
      clear Pl11_11 Gl20_20
      replace H := let_hid H
      obtain ⟨t_22, ht_22, H⟩ := H
      replace H := bind_hid H
      obtain ⟨t_27, qt_27, H⟩ := H
      go_wp2_with fail
      clear z0l11_11 hct_9_0 hct_9_1 hct_9_2 hct_9_3 z0l20_20 hct_18_0 hct_18_1 hct_18_2 hct_18_3
      go_at_call 72
      refine (Go.Proofs.Ytpaakpbbahbhcaa.GlMarkText.C (t_22)  _    qt_27).mono ?_
      rintro e_t_27 wt_27 ⟨rfl, bt_27⟩
      have HBwt_27 := Lib.hid (Go.Proofs.Ytpaakpbbahbhcaa.GoN.grownN_below HBwl20_20.out bt_27)
      replace Pl20_20 := Lib.hid (Go.Proofs.Ytpaakpbbahbhcaa.GoV.nest_below Pl20_20.out bt_27)
      clear bt_27
      replace H := idx_hid H
      obtain ⟨nt_28, yt_28, et_28, lt_28, gt_28, H⟩ := H
      obtain rfl : k0 = nt_28 := by omega
      clear et_28
      obtain ⟨t_28_id, t_28_year, t_28_town, t_28_traits⟩ := yt_28
      replace H := unSighting_hid H
      obtain ⟨gt_28_, zt_28, Art_28, crt_28, eAt_28, zzt_28, hKt_28, hot_28, hmt_28, hat_28⟩ := Go.Proofs.Ytpaakpbbahbhcaa.GoV.nest_own Pl20_20.out (k := k0) lt_28
      obtain rfl := Option.some.inj (gt_28.out.symm.trans zzt_28)
      clear zzt_28
      simp only [Option.some.injEq, Addr.mk.injEq, and_true] at eAt_28
      subst eAt_28
      have hct_28_0 : wt_27.cell? ⟨gt_9_, k0 * 4, none⟩ = some (.int .i64 t_28_id) := hKt_28 0 _ rfl
      have hct_28_1 : wt_27.cell? ⟨gt_9_, k0 * 4 + 1, none⟩ = some (.int .i64 t_28_year) := hKt_28 1 _ rfl
      have hct_28_2 : wt_27.cell? ⟨gt_9_, k0 * 4 + 2, none⟩ = some (.string t_28_town) := hKt_28 2 _ rfl
      have hct_28_3 : wt_27.cell? ⟨gt_9_, k0 * 4 + 3, none⟩ = some (.slice Art_28 t_28_traits.length crt_28) := hKt_28 3 _ rfl
      clear hKt_28
      have ltt_28 := cell_lt hct_28_0
      have Ort_28 := Lib.hid hot_28
      have mrt_28 := Lib.hid hmt_28
      clear hot_28 hmt_28 hat_28
      have b0t_28 : (0 : Int) ≤ (k0 : Int) := by omega
      have b1t_28 : (k0 : Int) < ((l20_20.length : Nat) : Int) := by omega
      have b2t_28 : ((k0 : Int)).toNat = k0 := by omega
      have hq_t_28 := nl20_20.out
      have b4t_28 : (k0 : Int) < ((a.length : Nat) : Int) := by omega
      clear hq_t_28
      replace H := let_hid H
      obtain ⟨l30_30, hl30_30, H⟩ := H
      try simp only [Int.toNat_natCast] at hl30_30
      obtain ⟨wl30_30, hwl30_30⟩ : ∃ x, (wt_27).setCell ⟨gt_9_, k0 * 4 + 2, none⟩ (.string t_27) = x := ⟨_, rfl⟩
      have z0l30_30 := Go.Proofs.Ytpaakpbbahbhcaa.GoV.nest_frozen Pl20_20.out (k0 * 4 + 2)
      have nl30_30 : Hid (l30_30.length = a.length) := Lib.hid (by rw [← hl30_30, List.length_set]; exact nl20_20.out)
      have Sl30_30 := Lib.hid (Go.Proofs.Ytpaakpbbahbhcaa.GoV.nest_set (k := k0) (j := 2) (x := (Go.Proofs.Ytpaakpbbahbhcaa.PSighting.Sighting.mk t_28_id t_28_year t_28_town t_28_traits)) (x' := (Go.Proofs.Ytpaakpbbahbhcaa.PSighting.Sighting.mk t_28_id t_28_year t_27 t_28_traits)) (u := .string t_27) Pl20_20.out gt_28.out rfl (by decide) (fun z_ => rfl))
      have Pl30_30 : Hid (Go.Proofs.Ytpaakpbbahbhcaa.GoV.OwnNest wl30_30 (b0) 67 3 Go.Proofs.Ytpaakpbbahbhcaa.GoVSighting.lay (some ⟨gt_9_, 0, none⟩) c0 l30_30 B0) := Lib.hid (by rw [← hl30_30, ← hwl30_30]; exact Sl30_30.out.1)
      have Gl30_30 : Hid (wt_27.grownBy wl30_30 (Value.slice (some ⟨gt_9_, 0, none⟩) a.length c0).ownBlock) := Lib.hid (by rw [← hwl30_30]; exact Sl30_30.out.2)
      clear Sl30_30
      have HBwl30_30 := Lib.hid (Go.Proofs.Ytpaakpbbahbhcaa.GoN.grownN_row HBwt_27.out Gl30_30.out (Go.Proofs.Ytpaakpbbahbhcaa.GoV.nest_head Pl20_20.out))
      have hhl30_30 := Lib.hid hl30_30
      clear hl30_30
      clear Pl20_20 Gl30_30
      replace H := let_hid H
      obtain ⟨t_32, ht_32, H⟩ := H
      replace H := idx_hid H
      obtain ⟨nt_36, yt_36, et_36, lt_36, gt_36, H⟩ := H
      obtain rfl : k0 = nt_36 := by omega
      clear et_36
      obtain ⟨t_36_id, t_36_year, t_36_town, t_36_traits⟩ := yt_36
      replace H := unSighting_hid H
      obtain ⟨gt_36_, zt_36, Art_36, crt_36, eAt_36, zzt_36, hKt_36, hot_36, hmt_36, hat_36⟩ := Go.Proofs.Ytpaakpbbahbhcaa.GoV.nest_own Pl30_30.out (k := k0) lt_36
      obtain rfl := Option.some.inj (gt_36.out.symm.trans zzt_36)
      clear zzt_36
      simp only [Option.some.injEq, Addr.mk.injEq, and_true] at eAt_36
      subst eAt_36
      have hct_36_0 : wl30_30.cell? ⟨gt_9_, k0 * 4, none⟩ = some (.int .i64 t_36_id) := hKt_36 0 _ rfl
      have hct_36_1 : wl30_30.cell? ⟨gt_9_, k0 * 4 + 1, none⟩ = some (.int .i64 t_36_year) := hKt_36 1 _ rfl
      have hct_36_2 : wl30_30.cell? ⟨gt_9_, k0 * 4 + 2, none⟩ = some (.string t_36_town) := hKt_36 2 _ rfl
      have hct_36_3 : wl30_30.cell? ⟨gt_9_, k0 * 4 + 3, none⟩ = some (.slice Art_36 t_36_traits.length crt_36) := hKt_36 3 _ rfl
      clear hKt_36
      have ltt_36 := cell_lt hct_36_0
      have Ort_36 := Lib.hid hot_36
      have mrt_36 := Lib.hid hmt_36
      clear hot_36 hmt_36 hat_36
      have b0t_36 : (0 : Int) ≤ (k0 : Int) := by omega
      have b1t_36 : (k0 : Int) < ((l30_30.length : Nat) : Int) := by omega
      have b2t_36 : ((k0 : Int)).toNat = k0 := by omega
      have hq_t_36 := nl30_30.out
      have b4t_36 : (k0 : Int) < ((a.length : Nat) : Int) := by omega
      clear hq_t_36
      replace H := bind2_hid H
      obtain ⟨t_40, lt_40, qt_40, H⟩ := H
      go_wp2_with fail
      clear z0l30_30 hct_28_0 hct_28_1 hct_28_2 hct_28_3
      go_at_call 38
      refine (Go.Proofs.Ytpaakpbbahbhcaa.GlMarkIntS.C (t_36_traits) (t_32) Art_36 crt_36 b0 _   Ort_36 (Lib.hid (own_max Ort_36.out))   qt_40).mono ?_
      rintro e_t_40 wt_40 ⟨rfl, ot_40, nt_40, gt_40⟩
      have Pt_40 := Lib.hid ot_40
      have Gt_40 := Lib.hid gt_40
      replace nt_40 := Lib.hid nt_40
      clear ot_40 gt_40
      have HBwt_40 := Lib.hid (Go.Proofs.Ytpaakpbbahbhcaa.GoN.grownN_row HBwl30_30.out Gt_40.out mrt_36.out)
      replace H := let_hid H
      obtain ⟨nnt_40, hnnt_40, H⟩ := H
      have Nt_40 : Hid (Go.Proofs.Ytpaakpbbahbhcaa.GoV.OwnNest wt_40 (b0) 67 3 Go.Proofs.Ytpaakpbbahbhcaa.GoVSighting.lay (some ⟨gt_9_, 0, none⟩) c0 nnt_40 B0) := Lib.hid (by rw [← hnnt_40]; exact Go.Proofs.Ytpaakpbbahbhcaa.GoV.nest_store (k := k0) Pl30_30.out gt_36.out hct_36_3 Pt_40.out nt_40.out rfl (fun z_ => Go.Proofs.Ytpaakpbbahbhcaa.GoVSighting.enc_row nt_40.out z_) Gt_40.out)
      have mt_40 : Hid (nnt_40.length = a.length) := Lib.hid (by rw [← hnnt_40, List.length_set]; exact nl30_30.out)
      have hhnnt_40 := Lib.hid hnnt_40
      clear hnnt_40
      clear hct_36_0 hct_36_1 hct_36_2 hct_36_3
      clear Pl30_30
      clear Ort_36 Gt_40
      replace H := app_hid H
      go_wp2_with fail
      go_roundg m0
      case measure => omega
      case rel => exact ⟨k0 + 1, _, _, by omega, by go_num, rfl, H, HBwt_40, Nt_40, Lib.hid (mt_40.out)⟩
end Go.Proofs.Ytpaakpbbahbhcaa.GlMarkSightingS

/- loop.example/g01062/laws.heldIntS as a plain function, and the contract of the program's: where the plain one has an answer, the program has it. Conditions: slices read as lists. -/
namespace Go.Proofs.Ytpaakpbbahbhcaa.GlHeldIntS
set_option linter.unusedVariables false
set_option linter.unusedSimpArgs false
open Go.RowKit
open Go.Proofs.Ytpaakpbbahbhcaa.Rowed Go.Proofs.Ytpaakpbbahbhcaa.Turn Go.Proofs.Ytpaakpbbahbhcaa.Aid Go.Proofs.Ytpaakpbbahbhcaa.GoP Go.Proofs.Ytpaakpbbahbhcaa.GoM

def l0 (a : (List Int)) (k0 : Nat) (s : Int) (nx0 bk0 : Int → Option (Int)) : Option (Int) :=
  letK s fun k_1l0 =>
  Option.bind (idx a (k0 : Int)) fun (yt_8 : Int) =>
  letK (yt_8 != k_1l0) fun (t_11 : Bool) =>
  iteK t_11
  (some (-1))
  (letK (IntKind.i64.wrap (k_1l0 + 1)) fun (t_14 : Int) =>
  appK nx0 (t_14))

def e0  (s : Int) : Option (Int) :=
  letK s fun k_1l0 =>
  some k_1l0

def P (a : (List Int)) (k_1 : Int) : Option (Int) :=
  cntK (l0 a) (a.length) 0 (k_1) (e0 )

set_option maxRecDepth 100000 in
set_option maxHeartbeats 2000000 in
theorem C (a : (List Int)) (k_1 : Int) (A0 : Option Addr) (c0 : Nat)  (w : World) (M0 : Hid (Cells w 1 A0 a.length (Go.Proofs.Ytpaakpbbahbhcaa.HelpInt.iv a))) (N0 : Hid (a.length ≤ 9223372036854775807))  {r : Int} (H : Hid (P a k_1 = some r)) :
    Calls Try.prog 39 #[.slice A0 a.length c0, .int .i64 k_1] w (Gives (.int .i64 r) w) := by
  have HB := Lib.hid (Below.refl w.heap.size w)
  unfold P at H
  have N0o := N0.out
  go_enter Try.func39, Try.ntmps39
  go_wp2_with fail
  go_loopg [5, 1] (a.length) (fun m_ v5_ v1_ wr => ∃ (k0 : Nat) (k_1l0 : Int), k0 + m_ = a.length ∧ v5_ = .int .i64 (k0 : Int) ∧ v1_ = .int .i64 k_1l0 ∧ Hid (cntK (l0 a) m_ k0 (k_1l0) (e0 ) = some r) ∧ Hid (Below w.heap.size w wr))
  case atStart => exact ⟨0, _, by omega, rfl, rfl, H, HB⟩
  case round =>
    obtain ⟨k0, k_1l0, hkm0, rfl, rfl, H, HBwr0⟩ := hrel
    rename World => wr0
    cases gk with
    | zero =>
      obtain rfl : k0 = a.length := by omega
      have hc0 : decide (((a.length : Nat) : Int) < ((a.length : Nat) : Int)) = false := by simp
      replace H := cnt_zero H
      unfold e0 at H
      replace H := let_hid H
      obtain ⟨_, rfl, H⟩ := H
      obtain rfl := ret_hid H
      go_wp2_with fail
      go_ret
      exact ⟨rfl, HBwr0.out⟩
    | succ m0 =>
      have hlt0 : k0 < a.length := by omega
      have hc0 : decide ((k0 : Int) < ((a.length : Nat) : Int)) = true := by simp; omega
      replace H := cnt_succ H
      unfold l0 at H
      replace H := let_hid H
      obtain ⟨_, rfl, H⟩ := H
      replace H := idx_hid H
      obtain ⟨nt_8, yt_8, et_8, lt_8, gt_8, H⟩ := H
      obtain rfl : k0 = nt_8 := by omega
      clear et_8
      obtain ⟨ab_t_8, ao_t_8, zt_8, At_8, z_t_8, ct_8_0⟩ := Go.Proofs.Ytpaakpbbahbhcaa.HelpInt.Ints.at_ M0.out lt_8
      obtain rfl := Option.some.inj (gt_8.out.symm.trans z_t_8)
      subst At_8
      have ltt_8 := cell_lt ct_8_0
      replace ct_8_0 := cell_below HBwr0.out ct_8_0
      clear z_t_8
      have b0t_8 : (0 : Int) ≤ (k0 : Int) := by omega
      have b1t_8 : (k0 : Int) < ((a.length : Nat) : Int) := by omega
      have b2t_8 : ((k0 : Int)).toNat = k0 := by omega
      replace H := let_hid H
      obtain ⟨t_11, ht_11, H⟩ := H
      cases t_11 with
      | false =>
        replace H := ite_f H
        replace H := let_hid H
        obtain ⟨t_14, ht_14, H⟩ := H
        replace H := app_hid H
        go_wp2_with fail
        go_roundg m0
        case measure => omega
        case rel => exact ⟨k0 + 1, _, by omega, by go_num, rfl, H, HBwr0⟩
      | true =>
        replace H := ite_t H
        obtain rfl := ret_hid H
        go_wp2_with fail
        go_ret
        exact ⟨rfl, HBwr0.out⟩
end Go.Proofs.Ytpaakpbbahbhcaa.GlHeldIntS

/- loop.example/g01062/laws.heldSightingS as a plain function, and the contract of the program's: where the plain one has an answer, the program has it. Conditions: slices read as lists. -/
namespace Go.Proofs.Ytpaakpbbahbhcaa.GlHeldSightingS
set_option linter.unusedVariables false
set_option linter.unusedSimpArgs false
open Go.RowKit
open Go.Proofs.Ytpaakpbbahbhcaa.Rowed Go.Proofs.Ytpaakpbbahbhcaa.Turn Go.Proofs.Ytpaakpbbahbhcaa.Aid Go.Proofs.Ytpaakpbbahbhcaa.GoP Go.Proofs.Ytpaakpbbahbhcaa.GoM

def l0 (a : (List Go.Proofs.Ytpaakpbbahbhcaa.PSighting.Sighting)) (k0 : Nat) (s : Int) (nx0 bk0 : Int → Option (Int)) : Option (Int) :=
  letK s fun k_1l0 =>
  Option.bind (idx a (k0 : Int)) fun (yt_8 : Go.Proofs.Ytpaakpbbahbhcaa.PSighting.Sighting) =>
  unSighting yt_8 fun (t_8_id : Int) (t_8_year : Int) (t_8_town : ByteArray) (t_8_traits : (List Int)) =>
  letK (t_8_id != k_1l0) fun (t_12 : Bool) =>
  iteK t_12
  (some (-1))
  (letK (IntKind.i64.wrap (k_1l0 + 1)) fun (t_15 : Int) =>
  Option.bind (idx a (k0 : Int)) fun (yt_19 : Go.Proofs.Ytpaakpbbahbhcaa.PSighting.Sighting) =>
  unSighting yt_19 fun (t_19_id : Int) (t_19_year : Int) (t_19_town : ByteArray) (t_19_traits : (List Int)) =>
  letK (t_19_year != t_15) fun (t_23 : Bool) =>
  iteK t_23
  (some (-1))
  (letK (IntKind.i64.wrap (t_15 + 1)) fun (t_26 : Int) =>
  Option.bind (idx a (k0 : Int)) fun (yt_30 : Go.Proofs.Ytpaakpbbahbhcaa.PSighting.Sighting) =>
  unSighting yt_30 fun (t_30_id : Int) (t_30_year : Int) (t_30_town : ByteArray) (t_30_traits : (List Int)) =>
  Option.bind (Go.Proofs.Ytpaakpbbahbhcaa.GlMarkText.P t_26) fun (t_34 : ByteArray) =>
  letK (!(t_30_town.toList == t_34.toList)) fun (t_35 : Bool) =>
  iteK t_35
  (some (-1))
  (letK (IntKind.i64.wrap (t_26 + 1)) fun (t_38 : Int) =>
  Option.bind (idx a (k0 : Int)) fun (yt_42 : Go.Proofs.Ytpaakpbbahbhcaa.PSighting.Sighting) =>
  unSighting yt_42 fun (t_42_id : Int) (t_42_year : Int) (t_42_town : ByteArray) (t_42_traits : (List Int)) =>
  Option.bind (Go.Proofs.Ytpaakpbbahbhcaa.GlHeldIntS.P t_42_traits t_38) fun (t_46 : Int) =>
  letK (decide (t_46 < 0)) fun (t_49 : Bool) =>
  iteK t_49
  (some (-1))
  (appK nx0 (t_46)))))

def e0  (s : Int) : Option (Int) :=
  letK s fun k_1l0 =>
  some k_1l0

def P (a : (List Go.Proofs.Ytpaakpbbahbhcaa.PSighting.Sighting)) (k_1 : Int) : Option (Int) :=
  cntK (l0 a) (a.length) 0 (k_1) (e0 )

set_option maxRecDepth 100000 in
set_option maxHeartbeats 2000000 in
theorem C (a : (List Go.Proofs.Ytpaakpbbahbhcaa.PSighting.Sighting)) (k_1 : Int) (A0 : Option Addr) (c0 : Nat)  (w : World) (M0 : Hid (Go.Proofs.Ytpaakpbbahbhcaa.GoV.ReadNest w Go.Proofs.Ytpaakpbbahbhcaa.GoVSighting.lay A0 a)) (N0 : Hid (a.length ≤ 9223372036854775807))  {r : Int} (H : Hid (P a k_1 = some r)) :
    Calls Try.prog 51 #[.slice A0 a.length c0, .int .i64 k_1] w (Gives (.int .i64 r) w) := by
  have HB := Lib.hid (Below.refl w.heap.size w)
  unfold P at H
  have N0o := N0.out
  go_enter Try.func51, Try.ntmps51
  go_wp2_with fail
  go_loopg [5, 1] (a.length) (fun m_ v5_ v1_ wr => ∃ (k0 : Nat) (k_1l0 : Int), k0 + m_ = a.length ∧ v5_ = .int .i64 (k0 : Int) ∧ v1_ = .int .i64 k_1l0 ∧ Hid (cntK (l0 a) m_ k0 (k_1l0) (e0 ) = some r) ∧ Hid (Below w.heap.size w wr))
  case atStart => exact ⟨0, _, by omega, rfl, rfl, H, HB⟩
  case round =>
    obtain ⟨k0, k_1l0, hkm0, rfl, rfl, H, HBwr0⟩ := hrel
    rename World => wr0
    cases gk with
    | zero =>
      obtain rfl : k0 = a.length := by omega
      have hc0 : decide (((a.length : Nat) : Int) < ((a.length : Nat) : Int)) = false := by simp
      replace H := cnt_zero H
      unfold e0 at H
      replace H := let_hid H
      obtain ⟨_, rfl, H⟩ := H
      obtain rfl := ret_hid H
      go_wp2_with fail
      go_ret
      exact ⟨rfl, HBwr0.out⟩
    | succ m0 =>
      have hlt0 : k0 < a.length := by omega
      have hc0 : decide ((k0 : Int) < ((a.length : Nat) : Int)) = true := by simp; omega
      replace H := cnt_succ H
      unfold l0 at H
      replace H := let_hid H
      obtain ⟨_, rfl, H⟩ := H
      replace H := idx_hid H
      obtain ⟨nt_8, yt_8, et_8, lt_8, gt_8, H⟩ := H
      obtain rfl : k0 = nt_8 := by omega
      clear et_8
      obtain ⟨t_8_id, t_8_year, t_8_town, t_8_traits⟩ := yt_8
      replace H := unSighting_hid H
      obtain ⟨bbt_8, oot_8, zt_8, Art_8, crt_8, eAt_8, zzt_8, hKt_8, hrt_8, hqt_8, hnt_8⟩ := Go.Proofs.Ytpaakpbbahbhcaa.GoV.nest_at M0.out (k := k0) lt_8
      obtain rfl := Option.some.inj (gt_8.out.symm.trans zzt_8)
      clear zzt_8
      subst eAt_8
      have hct_8_0 : w.cell? ⟨bbt_8, oot_8 + k0 * 4, none⟩ = some (.int .i64 t_8_id) := hKt_8 0 _ rfl
      have hct_8_1 : w.cell? ⟨bbt_8, oot_8 + k0 * 4 + 1, none⟩ = some (.int .i64 t_8_year) := hKt_8 1 _ rfl
      have hct_8_2 : w.cell? ⟨bbt_8, oot_8 + k0 * 4 + 2, none⟩ = some (.string t_8_town) := hKt_8 2 _ rfl
      have hct_8_3 : w.cell? ⟨bbt_8, oot_8 + k0 * 4 + 3, none⟩ = some (.slice Art_8 t_8_traits.length crt_8) := hKt_8 3 _ rfl
      clear hKt_8
      have ltt_8 := cell_lt hct_8_0
      replace hct_8_0 := cell_below HBwr0.out hct_8_0
      replace hct_8_1 := cell_below HBwr0.out hct_8_1
      replace hct_8_2 := cell_below HBwr0.out hct_8_2
      replace hct_8_3 := cell_below HBwr0.out hct_8_3
      have Mrt_8 := Lib.hid hrt_8
      have Qrt_8 := Lib.hid hqt_8
      have Nrt_8 := Lib.hid hnt_8
      clear hrt_8 hqt_8 hnt_8
      have b0t_8 : (0 : Int) ≤ (k0 : Int) := by omega
      have b1t_8 : (k0 : Int) < ((a.length : Nat) : Int) := by omega
      have b2t_8 : ((k0 : Int)).toNat = k0 := by omega
      replace H := let_hid H
      obtain ⟨t_12, ht_12, H⟩ := H
      cases t_12 with
      | false =>
        replace H := ite_f H
        replace H := let_hid H
        obtain ⟨t_15, ht_15, H⟩ := H
        replace H := idx_hid H
        obtain ⟨nt_19, yt_19, et_19, lt_19, gt_19, H⟩ := H
        obtain rfl : k0 = nt_19 := by omega
        clear et_19
        obtain rfl := Option.some.inj (gt_8.out.symm.trans gt_19.out)
        clear gt_19 lt_19
        replace H := unSighting_hid H
        replace H := let_hid H
        obtain ⟨t_23, ht_23, H⟩ := H
        cases t_23 with
        | false =>
          replace H := ite_f H
          replace H := let_hid H
          obtain ⟨t_26, ht_26, H⟩ := H
          go_wp2_with fail
          have Hhct_8_0 := Lib.hid hct_8_0
          replace hct_8_0 := cell_regrown hct_8_0
          have Hhct_8_1 := Lib.hid hct_8_1
          replace hct_8_1 := cell_regrown hct_8_1
          have Hhct_8_2 := Lib.hid hct_8_2
          replace hct_8_2 := cell_regrown hct_8_2
          have Hhct_8_3 := Lib.hid hct_8_3
          replace hct_8_3 := cell_regrown hct_8_3
          replace H := idx_hid H
          obtain ⟨nt_30, yt_30, et_30, lt_30, gt_30, H⟩ := H
          obtain rfl : k0 = nt_30 := by omega
          clear et_30
          obtain rfl := Option.some.inj (gt_8.out.symm.trans gt_30.out)
          clear gt_30 lt_30
          replace H := unSighting_hid H
          replace H := bind_hid H
          obtain ⟨t_34, qt_34, H⟩ := H
          have nt_34 : ∀ d os, Calls Try.prog 72 #[.int .i64 t_26] (Go.Sort.grow (redrawn wr0 d) os) fun e w'' => e = .returned (.string t_34) ∧ ∃ p : Regrown, w'' = Go.Sort.grow (redrawn wr0 p.d) p.os := fun d os => Calls.regrown_of (Go.Proofs.Ytpaakpbbahbhcaa.GlMarkText.C (t_26)  _    qt_34)
          replace H := let_hid H
          obtain ⟨t_35, ht_35, H⟩ := H
          refine wp_region_quiet_below (by kernel_rfl) (by kernel_rfl) ?_
          repeat (go_big_quiet_step (first | (go_at_call 72; exact nt_34 _ _)))
          refine wpQuiet_nil ?_
          intro Y10 hY10
          replace hY10 := below_class hY10
          clear nt_34
          replace hct_8_0 := Hhct_8_0.out
          clear Hhct_8_0
          replace hct_8_1 := Hhct_8_1.out
          clear Hhct_8_1
          replace hct_8_2 := Hhct_8_2.out
          clear Hhct_8_2
          replace hct_8_3 := Hhct_8_3.out
          clear Hhct_8_3
          have HBY10 := Lib.hid (Below.step HBwr0.out hY10)
          replace hct_8_0 := cell_below hY10 hct_8_0
          replace hct_8_1 := cell_below hY10 hct_8_1
          replace hct_8_2 := cell_below hY10 hct_8_2
          replace hct_8_3 := cell_below hY10 hct_8_3
          clear hY10
          cases t_35 with
          | false =>
            replace H := ite_f H
            replace H := let_hid H
            obtain ⟨t_38, ht_38, H⟩ := H
            replace H := idx_hid H
            obtain ⟨nt_42, yt_42, et_42, lt_42, gt_42, H⟩ := H
            obtain rfl : k0 = nt_42 := by omega
            clear et_42
            obtain rfl := Option.some.inj (gt_8.out.symm.trans gt_42.out)
            clear gt_42 lt_42
            replace H := unSighting_hid H
            replace H := bind_hid H
            obtain ⟨t_46, qt_46, H⟩ := H
            go_wp2_with fail
            go_at_call 39
            refine (Go.Proofs.Ytpaakpbbahbhcaa.GlHeldIntS.C (t_8_traits) (t_38) Art_8 crt_8 _   (Lib.hid (Cells.below Mrt_8.out HBY10.out)) Nrt_8 qt_46).mono ?_
            rintro e_t_46 wt_46 ⟨rfl, bt_46⟩
            have HBwt_46 := Lib.hid (Below.step HBY10.out bt_46)
            replace hct_8_0 := cell_below bt_46 hct_8_0
            replace hct_8_1 := cell_below bt_46 hct_8_1
            replace hct_8_2 := cell_below bt_46 hct_8_2
            replace hct_8_3 := cell_below bt_46 hct_8_3
            clear bt_46
            replace H := let_hid H
            obtain ⟨t_49, ht_49, H⟩ := H
            cases t_49 with
            | false =>
              replace H := ite_f H
              replace H := app_hid H
              go_wp2_with fail
              go_roundg m0
              case measure => omega
              case rel => exact ⟨k0 + 1, _, by omega, by go_num, rfl, H, HBwt_46⟩
            | true =>
              replace H := ite_t H
              obtain rfl := ret_hid H
              go_wp2_with fail
              go_ret
              exact ⟨rfl, HBwt_46.out⟩
          | true =>
            replace H := ite_t H
            obtain rfl := ret_hid H
            go_wp2_with fail
            go_ret
            exact ⟨rfl, HBY10.out⟩
        | true =>
          replace H := ite_t H
          obtain rfl := ret_hid H
          go_wp2_with fail
          go_ret
          exact ⟨rfl, HBwr0.out⟩
      | true =>
        replace H := ite_t H
        obtain rfl := ret_hid H
        go_wp2_with fail
        go_ret
        exact ⟨rfl, HBwr0.out⟩
end Go.Proofs.Ytpaakpbbahbhcaa.GlHeldSightingS

/- loop.example/g01062/laws.FnExactAddSighting as a plain function, and the contract of the program's: where the plain one has an answer, the program has it. Conditions: slices read as lists. -/
namespace Go.Proofs.Ytpaakpbbahbhcaa.GlFnExactAddSighting
set_option linter.unusedVariables false
set_option linter.unusedSimpArgs false
open Go.RowKit
open Go.Proofs.Ytpaakpbbahbhcaa.Rowed Go.Proofs.Ytpaakpbbahbhcaa.Turn Go.Proofs.Ytpaakpbbahbhcaa.Aid Go.Proofs.Ytpaakpbbahbhcaa.GoP Go.Proofs.Ytpaakpbbahbhcaa.GoM

def P (aList : (List Go.Proofs.Ytpaakpbbahbhcaa.PSighting.Sighting)) (aYear : Int) (aTown : ByteArray) (aTraits : (List Int)) : Option (Bool) :=
  letK (decide (1048576 < (aTown.size : Int))) fun (t_3 : Bool) =>
  iteK t_3
  (some true)
  (letK (decide (1048576 < (aTraits.length : Int))) fun (t_7 : Bool) =>
  iteK t_7
  (some true)
  (Option.bind (Go.Proofs.Ytpaakpbbahbhcaa.GlSzSightingS.P aList 1048576) fun (t_12 : Int) =>
  letK (decide (t_12 < 0)) fun (t_15 : Bool) =>
  iteK t_15
  (some true)
  (Option.bind (Go.Proofs.Ytpaakpbbahbhcaa.GlToSightingS.P aList) fun (t_18 : (List Go.Proofs.Ytpaakpbbahbhcaa.PSighting.Sighting)) =>
  Option.bind (Go.Proofs.Ytpaakpbbahbhcaa.GlToIntS.P aTraits) fun (t_22 : (List Int)) =>
  bind3 (Go.Proofs.Ytpaakpbbahbhcaa.GsAddSighting.P t_18 aYear aTown t_22) fun (t_23a : (List Go.Proofs.Ytpaakpbbahbhcaa.PSighting.Sighting)) (t_23b : Int) (t_23c : Bool) =>
  Option.bind (Go.Proofs.Ytpaakpbbahbhcaa.GlToSightingS.P aList) fun (t_32 : (List Go.Proofs.Ytpaakpbbahbhcaa.PSighting.Sighting)) =>
  Option.bind (Go.Proofs.Ytpaakpbbahbhcaa.GlToIntS.P aTraits) fun (t_35 : (List Int)) =>
  bind3 (Go.Proofs.Ytpaakpbbahbhcaa.GiAddSighting.P t_32 aYear aTown t_35) fun (t_41a : (List Go.Proofs.Ytpaakpbbahbhcaa.PSighting.Sighting)) (t_41b : Int) (t_41c : Bool) =>
  Option.bind (Go.Proofs.Ytpaakpbbahbhcaa.GlEqSightingS.P t_41a t_23a) fun (t_51 : Bool) =>
  letK (!t_51) fun (t_52 : Bool) =>
  joinK (fun (t_57 : Bool) =>
  joinK (fun (t_62 : Bool) =>
  iteK t_62
  (some false)
  (Option.bind (Go.Proofs.Ytpaakpbbahbhcaa.GlToSightingS.P aList) fun (t_66 : (List Go.Proofs.Ytpaakpbbahbhcaa.PSighting.Sighting)) =>
  Option.bind (Go.Proofs.Ytpaakpbbahbhcaa.GlEqSightingS.P t_32 t_66) fun (t_67 : Bool) =>
  letK (!t_67) fun (t_68 : Bool) =>
  iteK t_68
  (some false)
  (Option.bind (Go.Proofs.Ytpaakpbbahbhcaa.GlToIntS.P aTraits) fun (t_72 : (List Int)) =>
  Option.bind (Go.Proofs.Ytpaakpbbahbhcaa.GlEqIntS.P t_35 t_72) fun (t_73 : Bool) =>
  letK (!t_73) fun (t_74 : Bool) =>
  iteK t_74
  (some false)
  (bind2 (Go.Proofs.Ytpaakpbbahbhcaa.GlMarkSightingS.P t_32 1) fun (t_79 : Int) (lt_79 : (List Go.Proofs.Ytpaakpbbahbhcaa.PSighting.Sighting)) =>
  bind2 (Go.Proofs.Ytpaakpbbahbhcaa.GlMarkIntS.P t_35 t_79) fun (t_83 : Int) (lt_83 : (List Int)) =>
  letK (decide (t_83 < 0)) fun (t_86 : Bool) =>
  joinK (fun (t_92 : Bool) =>
  joinK (fun (t_97 : Bool) =>
  joinK (fun (t_102 : Bool) =>
  iteK t_102
  (some false)
  (bind2 (Go.Proofs.Ytpaakpbbahbhcaa.GlMarkSightingS.P t_41a 1) fun (t_107 : Int) (lt_107 : (List Go.Proofs.Ytpaakpbbahbhcaa.PSighting.Sighting)) =>
  Option.bind (Go.Proofs.Ytpaakpbbahbhcaa.GlHeldSightingS.P lt_107 1) fun (t_112 : Int) =>
  letK (decide (t_112 < 0)) fun (t_115 : Bool) =>
  iteK t_115
  (some false)
  (letK (t_112 != t_107) fun (t_119 : Bool) =>
  iteK t_119
  (some false)
  (Option.bind (Go.Proofs.Ytpaakpbbahbhcaa.GlToSightingS.P aList) fun (t_122 : (List Go.Proofs.Ytpaakpbbahbhcaa.PSighting.Sighting)) =>
  Option.bind (Go.Proofs.Ytpaakpbbahbhcaa.GlToIntS.P aTraits) fun (t_126 : (List Int)) =>
  bind3 (Go.Proofs.Ytpaakpbbahbhcaa.GiAddSighting.P t_122 aYear aTown t_126) fun (t_127a : (List Go.Proofs.Ytpaakpbbahbhcaa.PSighting.Sighting)) (t_127b : Int) (t_127c : Bool) =>
  Option.bind (Go.Proofs.Ytpaakpbbahbhcaa.GlEqSightingS.P t_127a t_23a) fun (t_137 : Bool) =>
  letK (!t_137) fun (t_138 : Bool) =>
  joinK (fun (t_143 : Bool) =>
  joinK (fun (t_148 : Bool) =>
  iteK t_148
  (some false)
  (Option.bind (Go.Proofs.Ytpaakpbbahbhcaa.GlHeldSightingS.P lt_107 1) fun (t_153 : Int) =>
  letK (decide (t_153 < 0)) fun (t_156 : Bool) =>
  iteK t_156
  (some false)
  (letK (t_153 != t_107) fun (t_160 : Bool) =>
  iteK t_160
  (some false)
  (some true)))) fun jt_148 => iteK t_143 (appK jt_148 true) (letK (!(t_127c == t_23c)) fun (t_147 : Bool) =>
  appK jt_148 t_147)) fun jt_143 => iteK t_138 (appK jt_143 true) (letK (t_127b != t_23b) fun (t_142 : Bool) =>
  appK jt_143 t_142))))) fun jt_102 => iteK t_97 (appK jt_102 true) (letK (!(t_41c == t_23c)) fun (t_101 : Bool) =>
  appK jt_102 t_101)) fun jt_97 => iteK t_92 (appK jt_97 true) (letK (t_41b != t_23b) fun (t_96 : Bool) =>
  appK jt_97 t_96)) fun jt_92 => iteK t_86 (appK jt_92 true) (Option.bind (Go.Proofs.Ytpaakpbbahbhcaa.GlEqSightingS.P t_41a t_23a) fun (t_90 : Bool) =>
  letK (!t_90) fun (t_91 : Bool) =>
  appK jt_92 t_91))))) fun jt_62 => iteK t_57 (appK jt_62 true) (letK (!(t_41c == t_23c)) fun (t_61 : Bool) =>
  appK jt_62 t_61)) fun jt_57 => iteK t_52 (appK jt_57 true) (letK (t_41b != t_23b) fun (t_56 : Bool) =>
  appK jt_57 t_56))))

set_option maxRecDepth 100000 in
set_option maxHeartbeats 2000000 in
theorem C (aList : (List Go.Proofs.Ytpaakpbbahbhcaa.PSighting.Sighting)) (aYear : Int) (aTown : ByteArray) (aTraits : (List Int)) (A0 : Option Addr) (c0 : Nat) (A3 : Option Addr) (c3 : Nat)  (w : World) (M0 : Hid (Go.Proofs.Ytpaakpbbahbhcaa.GoV.ReadNest w Go.Proofs.Ytpaakpbbahbhcaa.GoVSighting.lay A0 aList)) (N0 : Hid (aList.length ≤ 9223372036854775807)) (M3 : Hid (Cells w 1 A3 aTraits.length (Go.Proofs.Ytpaakpbbahbhcaa.HelpInt.iv aTraits))) (N3 : Hid (aTraits.length ≤ 9223372036854775807))  {r : Bool} (H : Hid (P aList aYear aTown aTraits = some r)) :
    Calls Try.prog 13 #[.slice A0 aList.length c0, .int .i64 aYear, .string aTown, .slice A3 aTraits.length c3] w (Gives (.bool r) w) := by
  have HB := Lib.hid (Below.refl w.heap.size w)
  unfold P at H
  have N0o := N0.out
  have N3o := N3.out
  go_enter Try.func13, Try.ntmps13
  replace H := let_hid H
  obtain ⟨t_3, ht_3, H⟩ := H
  cases t_3 with
  | false =>
    have nht_3 : ¬ (1048576 < aTown.size) := by have := of_decide_eq_false ht_3; omega
    replace H := ite_f H
    replace H := let_hid H
    obtain ⟨t_7, ht_7, H⟩ := H
    cases t_7 with
    | false =>
      have nht_7 : ¬ (1048576 < aTraits.length) := by have := of_decide_eq_false ht_7; omega
      replace H := ite_f H
      replace H := bind_hid H
      obtain ⟨t_12, qt_12, H⟩ := H
      go_wp2_with fail
      go_at_call 30
      refine (Go.Proofs.Ytpaakpbbahbhcaa.GlSzSightingS.C (aList) (1048576) A0 c0 _   (Lib.hid (Go.Proofs.Ytpaakpbbahbhcaa.GoV.read_below M0.out HB.out)) N0 qt_12).mono ?_
      rintro e_t_12 wt_12 ⟨rfl, bt_12⟩
      have HBwt_12 := Lib.hid (Below.step HB.out bt_12)
      clear bt_12
      replace H := let_hid H
      obtain ⟨t_15, ht_15, H⟩ := H
      cases t_15 with
      | false =>
        replace H := ite_f H
        replace H := bind_hid H
        obtain ⟨t_18, qt_18, H⟩ := H
        go_wp2_with fail
        go_at_call 31
        refine (Go.Proofs.Ytpaakpbbahbhcaa.GlToSightingS.C (aList) A0 c0 _   (Lib.hid (Go.Proofs.Ytpaakpbbahbhcaa.GoV.read_below M0.out HBwt_12.out)) N0 qt_18).mono ?_
        rintro e_t_18 wt_18 ⟨At_18, ct_18, rfl, ⟨Bt_18, ot_18⟩, bt_18⟩
        have Ot_18 := Lib.hid (Go.Proofs.Ytpaakpbbahbhcaa.GoV.nest_lower ot_18 HBwt_12.out.size)
        clear ot_18
        have HBwt_18 := Lib.hid (Below.step HBwt_12.out bt_18)
        clear bt_18
        replace H := bind_hid H
        obtain ⟨t_22, qt_22, H⟩ := H
        go_wp2_with fail
        go_at_call 49
        refine (Go.Proofs.Ytpaakpbbahbhcaa.GlToIntS.C (aTraits) A3 c3 _   (Lib.hid (Cells.below M3.out HBwt_18.out)) N3 qt_22).mono ?_
        rintro e_t_22 wt_22 ⟨At_22, ct_22, rfl, ot_22, bt_22⟩
        have Dt_22_t_18 := Lib.hid (Go.Proofs.Ytpaakpbbahbhcaa.GoV.nest_call ot_22 Ot_18.out)
        have Ot_22 := Lib.hid (own_lower ot_22 HBwt_18.out.size)
        clear ot_22
        have HBwt_22 := Lib.hid (Below.step HBwt_18.out bt_22)
        replace Ot_18 := Lib.hid (Go.Proofs.Ytpaakpbbahbhcaa.GoV.nest_below Ot_18.out bt_22)
        clear bt_22
        replace H := bind3_hid H
        obtain ⟨t_23a, t_23b, t_23c, qt_23, H⟩ := H
        go_wp2_with fail
        go_at_call 48
        refine (Go.Proofs.Ytpaakpbbahbhcaa.GsAddSighting.C (t_18) (aYear) (aTown) (t_22) At_18 ct_18 At_22 ct_22 _   (Lib.hid (Go.Proofs.Ytpaakpbbahbhcaa.GoV.nest_read Ot_18.out)) (Lib.hid (Go.Proofs.Ytpaakpbbahbhcaa.GoV.nest_max Ot_18.out)) (Lib.hid (Go.Proofs.Ytpaakpbbahbhcaa.GoV.nest_room Ot_18.out)) (Lib.hid (own_cells Ot_22.out)) (Lib.hid (own_max Ot_22.out)) (Lib.hid (own_room Ot_22.out)) qt_23).mono ?_
        rintro e_t_23 wt_23 ⟨At_23a, ct_23a, rfl, ⟨Bt_23a, ot_23a⟩, bt_23⟩
        have Dt_23a_t_18 := Lib.hid (Go.Proofs.Ytpaakpbbahbhcaa.GoV.lts_apart (Go.Proofs.Ytpaakpbbahbhcaa.GoV.nest_lt ot_23a) (Go.Proofs.Ytpaakpbbahbhcaa.GoV.nest_lt Ot_18.out))
        have Dt_23a_t_22 := Lib.hid (Go.Proofs.Ytpaakpbbahbhcaa.GoV.nest_callrow ot_23a Ot_22.out)
        have Ot_23a := Lib.hid (Go.Proofs.Ytpaakpbbahbhcaa.GoV.nest_lower ot_23a HBwt_22.out.size)
        clear ot_23a
        have HBwt_23 := Lib.hid (Below.step HBwt_22.out bt_23)
        replace Ot_18 := Lib.hid (Go.Proofs.Ytpaakpbbahbhcaa.GoV.nest_below Ot_18.out bt_23)
        replace Ot_22 := Lib.hid (own_below Ot_22.out bt_23)
        clear bt_23
        replace H := bind_hid H
        obtain ⟨t_32, qt_32, H⟩ := H
        go_wp2_with fail
        go_at_call 31
        refine (Go.Proofs.Ytpaakpbbahbhcaa.GlToSightingS.C (aList) A0 c0 _   (Lib.hid (Go.Proofs.Ytpaakpbbahbhcaa.GoV.read_below M0.out HBwt_23.out)) N0 qt_32).mono ?_
        rintro e_t_32 wt_32 ⟨At_32, ct_32, rfl, ⟨Bt_32, ot_32⟩, bt_32⟩
        have Dt_32_t_18 := Lib.hid (Go.Proofs.Ytpaakpbbahbhcaa.GoV.lts_apart (Go.Proofs.Ytpaakpbbahbhcaa.GoV.nest_lt ot_32) (Go.Proofs.Ytpaakpbbahbhcaa.GoV.nest_lt Ot_18.out))
        have Dt_32_t_22 := Lib.hid (Go.Proofs.Ytpaakpbbahbhcaa.GoV.nest_callrow ot_32 Ot_22.out)
        have Dt_32_t_23a := Lib.hid (Go.Proofs.Ytpaakpbbahbhcaa.GoV.lts_apart (Go.Proofs.Ytpaakpbbahbhcaa.GoV.nest_lt ot_32) (Go.Proofs.Ytpaakpbbahbhcaa.GoV.nest_lt Ot_23a.out))
        have Ot_32 := Lib.hid (Go.Proofs.Ytpaakpbbahbhcaa.GoV.nest_lower ot_32 HBwt_23.out.size)
        clear ot_32
        have HBwt_32 := Lib.hid (Below.step HBwt_23.out bt_32)
        replace Ot_18 := Lib.hid (Go.Proofs.Ytpaakpbbahbhcaa.GoV.nest_below Ot_18.out bt_32)
        replace Ot_22 := Lib.hid (own_below Ot_22.out bt_32)
        replace Ot_23a := Lib.hid (Go.Proofs.Ytpaakpbbahbhcaa.GoV.nest_below Ot_23a.out bt_32)
        clear bt_32
        replace H := bind_hid H
        obtain ⟨t_35, qt_35, H⟩ := H
        go_wp2_with fail
        go_at_call 49
        refine (Go.Proofs.Ytpaakpbbahbhcaa.GlToIntS.C (aTraits) A3 c3 _   (Lib.hid (Cells.below M3.out HBwt_32.out)) N3 qt_35).mono ?_
        rintro e_t_35 wt_35 ⟨At_35, ct_35, rfl, ot_35, bt_35⟩
        have Dt_35_t_18 := Lib.hid (Go.Proofs.Ytpaakpbbahbhcaa.GoV.nest_call ot_35 Ot_18.out)
        have Dt_35_t_22 := Lib.hid (apart_call ot_35 Ot_22.out)
        have Dt_35_t_23a := Lib.hid (Go.Proofs.Ytpaakpbbahbhcaa.GoV.nest_call ot_35 Ot_23a.out)
        have Dt_35_t_32 := Lib.hid (Go.Proofs.Ytpaakpbbahbhcaa.GoV.nest_call ot_35 Ot_32.out)
        have Ot_35 := Lib.hid (own_lower ot_35 HBwt_32.out.size)
        clear ot_35
        have HBwt_35 := Lib.hid (Below.step HBwt_32.out bt_35)
        replace Ot_18 := Lib.hid (Go.Proofs.Ytpaakpbbahbhcaa.GoV.nest_below Ot_18.out bt_35)
        replace Ot_22 := Lib.hid (own_below Ot_22.out bt_35)
        replace Ot_23a := Lib.hid (Go.Proofs.Ytpaakpbbahbhcaa.GoV.nest_below Ot_23a.out bt_35)
        replace Ot_32 := Lib.hid (Go.Proofs.Ytpaakpbbahbhcaa.GoV.nest_below Ot_32.out bt_35)
        clear bt_35
        replace H := bind3_hid H
        obtain ⟨t_41a, t_41b, t_41c, qt_41, H⟩ := H
        go_wp2_with fail
        go_at_call 50
        refine (Go.Proofs.Ytpaakpbbahbhcaa.GiAddSighting.C (t_32) (aYear) (aTown) (t_35) At_32 ct_32 At_35 ct_35 _   (Lib.hid (Go.Proofs.Ytpaakpbbahbhcaa.GoV.nest_read Ot_32.out)) (Lib.hid (Go.Proofs.Ytpaakpbbahbhcaa.GoV.nest_max Ot_32.out)) (Lib.hid (Go.Proofs.Ytpaakpbbahbhcaa.GoV.nest_room Ot_32.out)) (Lib.hid (own_cells Ot_35.out)) (Lib.hid (own_max Ot_35.out)) (Lib.hid (own_room Ot_35.out)) qt_41).mono ?_
        rintro e_t_41 wt_41 ⟨At_41a, ct_41a, rfl, ⟨Bt_41a, ot_41a⟩, bt_41⟩
        have Dt_41a_t_18 := Lib.hid (Go.Proofs.Ytpaakpbbahbhcaa.GoV.lts_apart (Go.Proofs.Ytpaakpbbahbhcaa.GoV.nest_lt ot_41a) (Go.Proofs.Ytpaakpbbahbhcaa.GoV.nest_lt Ot_18.out))
        have Dt_41a_t_22 := Lib.hid (Go.Proofs.Ytpaakpbbahbhcaa.GoV.nest_callrow ot_41a Ot_22.out)
        have Dt_41a_t_23a := Lib.hid (Go.Proofs.Ytpaakpbbahbhcaa.GoV.lts_apart (Go.Proofs.Ytpaakpbbahbhcaa.GoV.nest_lt ot_41a) (Go.Proofs.Ytpaakpbbahbhcaa.GoV.nest_lt Ot_23a.out))
        have Dt_41a_t_32 := Lib.hid (Go.Proofs.Ytpaakpbbahbhcaa.GoV.lts_apart (Go.Proofs.Ytpaakpbbahbhcaa.GoV.nest_lt ot_41a) (Go.Proofs.Ytpaakpbbahbhcaa.GoV.nest_lt Ot_32.out))
        have Dt_41a_t_35 := Lib.hid (Go.Proofs.Ytpaakpbbahbhcaa.GoV.nest_callrow ot_41a Ot_35.out)
        have Ot_41a := Lib.hid (Go.Proofs.Ytpaakpbbahbhcaa.GoV.nest_lower ot_41a HBwt_35.out.size)
        clear ot_41a
        have HBwt_41 := Lib.hid (Below.step HBwt_35.out bt_41)
        replace Ot_18 := Lib.hid (Go.Proofs.Ytpaakpbbahbhcaa.GoV.nest_below Ot_18.out bt_41)
        replace Ot_22 := Lib.hid (own_below Ot_22.out bt_41)
        replace Ot_23a := Lib.hid (Go.Proofs.Ytpaakpbbahbhcaa.GoV.nest_below Ot_23a.out bt_41)
        replace Ot_32 := Lib.hid (Go.Proofs.Ytpaakpbbahbhcaa.GoV.nest_below Ot_32.out bt_41)
        replace Ot_35 := Lib.hid (own_below Ot_35.out bt_41)
        clear bt_41
        replace H := bind_hid H
        obtain ⟨t_51, qt_51, H⟩ := H
        go_wp2_with fail
        go_at_call 32
        refine (Go.Proofs.Ytpaakpbbahbhcaa.GlEqSightingS.C (t_41a) (t_23a) At_41a ct_41a At_23a ct_23a _   (Lib.hid (Go.Proofs.Ytpaakpbbahbhcaa.GoV.nest_read Ot_41a.out)) (Lib.hid (Go.Proofs.Ytpaakpbbahbhcaa.GoV.nest_max Ot_41a.out)) (Lib.hid (Go.Proofs.Ytpaakpbbahbhcaa.GoV.nest_read Ot_23a.out)) (Lib.hid (Go.Proofs.Ytpaakpbbahbhcaa.GoV.nest_max Ot_23a.out)) qt_51).mono ?_
        rintro e_t_51 wt_51 ⟨rfl, bt_51⟩
        have HBwt_51 := Lib.hid (Below.step HBwt_41.out bt_51)
        replace Ot_18 := Lib.hid (Go.Proofs.Ytpaakpbbahbhcaa.GoV.nest_below Ot_18.out bt_51)
        replace Ot_22 := Lib.hid (own_below Ot_22.out bt_51)
        replace Ot_23a := Lib.hid (Go.Proofs.Ytpaakpbbahbhcaa.GoV.nest_below Ot_23a.out bt_51)
        replace Ot_32 := Lib.hid (Go.Proofs.Ytpaakpbbahbhcaa.GoV.nest_below Ot_32.out bt_51)
        replace Ot_35 := Lib.hid (own_below Ot_35.out bt_51)
        replace Ot_41a := Lib.hid (Go.Proofs.Ytpaakpbbahbhcaa.GoV.nest_below Ot_41a.out bt_51)
        clear bt_51
        cases t_51 with
        | false =>
          replace H := let_hid H
          obtain ⟨t_52, ht_52, H⟩ := H
          obtain rfl : t_52 = true := ht_52.symm
          replace H := join_hid H
          replace H := ite_t H
          replace H := app_hid H
          replace H := join_hid H
          replace H := ite_t H
          replace H := app_hid H
          replace H := ite_t H
          obtain rfl := ret_hid H
          go_wp2_with fail
          go_ret
          exact ⟨rfl, HBwt_51.out⟩
        | true =>
          replace H := let_hid H
          obtain ⟨t_52, ht_52, H⟩ := H
          obtain rfl : t_52 = false := ht_52.symm
          replace H := join_hid H
          replace H := ite_f H
          replace H := let_hid H
          obtain ⟨t_56, ht_56, H⟩ := H
          replace H := app_hid H
          replace H := join_hid H
          cases t_56 with
          | false =>
            replace H := ite_f H
            replace H := let_hid H
            obtain ⟨t_61, ht_61, H⟩ := H
            replace H := app_hid H
            cases t_61 with
            | false =>
              replace H := ite_f H
              replace H := bind_hid H
              obtain ⟨t_66, qt_66, H⟩ := H
              go_wp2_with fail
              go_at_call 31
              refine (Go.Proofs.Ytpaakpbbahbhcaa.GlToSightingS.C (aList) A0 c0 _   (Lib.hid (Go.Proofs.Ytpaakpbbahbhcaa.GoV.read_below M0.out HBwt_51.out)) N0 qt_66).mono ?_
              rintro e_t_66 wt_66 ⟨At_66, ct_66, rfl, ⟨Bt_66, ot_66⟩, bt_66⟩
              have Dt_66_t_18 := Lib.hid (Go.Proofs.Ytpaakpbbahbhcaa.GoV.lts_apart (Go.Proofs.Ytpaakpbbahbhcaa.GoV.nest_lt ot_66) (Go.Proofs.Ytpaakpbbahbhcaa.GoV.nest_lt Ot_18.out))
              have Dt_66_t_22 := Lib.hid (Go.Proofs.Ytpaakpbbahbhcaa.GoV.nest_callrow ot_66 Ot_22.out)
              have Dt_66_t_23a := Lib.hid (Go.Proofs.Ytpaakpbbahbhcaa.GoV.lts_apart (Go.Proofs.Ytpaakpbbahbhcaa.GoV.nest_lt ot_66) (Go.Proofs.Ytpaakpbbahbhcaa.GoV.nest_lt Ot_23a.out))
              have Dt_66_t_32 := Lib.hid (Go.Proofs.Ytpaakpbbahbhcaa.GoV.lts_apart (Go.Proofs.Ytpaakpbbahbhcaa.GoV.nest_lt ot_66) (Go.Proofs.Ytpaakpbbahbhcaa.GoV.nest_lt Ot_32.out))
              have Dt_66_t_35 := Lib.hid (Go.Proofs.Ytpaakpbbahbhcaa.GoV.nest_callrow ot_66 Ot_35.out)
              have Dt_66_t_41a := Lib.hid (Go.Proofs.Ytpaakpbbahbhcaa.GoV.lts_apart (Go.Proofs.Ytpaakpbbahbhcaa.GoV.nest_lt ot_66) (Go.Proofs.Ytpaakpbbahbhcaa.GoV.nest_lt Ot_41a.out))
              have Ot_66 := Lib.hid (Go.Proofs.Ytpaakpbbahbhcaa.GoV.nest_lower ot_66 HBwt_51.out.size)
              clear ot_66
              have HBwt_66 := Lib.hid (Below.step HBwt_51.out bt_66)
              replace Ot_18 := Lib.hid (Go.Proofs.Ytpaakpbbahbhcaa.GoV.nest_below Ot_18.out bt_66)
              replace Ot_22 := Lib.hid (own_below Ot_22.out bt_66)
              replace Ot_23a := Lib.hid (Go.Proofs.Ytpaakpbbahbhcaa.GoV.nest_below Ot_23a.out bt_66)
              replace Ot_32 := Lib.hid (Go.Proofs.Ytpaakpbbahbhcaa.GoV.nest_below Ot_32.out bt_66)
              replace Ot_35 := Lib.hid (own_below Ot_35.out bt_66)
              replace Ot_41a := Lib.hid (Go.Proofs.Ytpaakpbbahbhcaa.GoV.nest_below Ot_41a.out bt_66)
              clear bt_66
              replace H := bind_hid H
              obtain ⟨t_67, qt_67, H⟩ := H
              go_wp2_with fail
              go_at_call 32
              refine (Go.Proofs.Ytpaakpbbahbhcaa.GlEqSightingS.C (t_32) (t_66) At_32 ct_32 At_66 ct_66 _   (Lib.hid (Go.Proofs.Ytpaakpbbahbhcaa.GoV.nest_read Ot_32.out)) (Lib.hid (Go.Proofs.Ytpaakpbbahbhcaa.GoV.nest_max Ot_32.out)) (Lib.hid (Go.Proofs.Ytpaakpbbahbhcaa.GoV.nest_read Ot_66.out)) (Lib.hid (Go.Proofs.Ytpaakpbbahbhcaa.GoV.nest_max Ot_66.out)) qt_67).mono ?_
              rintro e_t_67 wt_67 ⟨rfl, bt_67⟩
              have HBwt_67 := Lib.hid (Below.step HBwt_66.out bt_67)
              replace Ot_18 := Lib.hid (Go.Proofs.Ytpaakpbbahbhcaa.GoV.nest_below Ot_18.out bt_67)
              replace Ot_22 := Lib.hid (own_below Ot_22.out bt_67)
              replace Ot_23a := Lib.hid (Go.Proofs.Ytpaakpbbahbhcaa.GoV.nest_below Ot_23a.out bt_67)
              replace Ot_32 := Lib.hid (Go.Proofs.Ytpaakpbbahbhcaa.GoV.nest_below Ot_32.out bt_67)
              replace Ot_35 := Lib.hid (own_below Ot_35.out bt_67)
              replace Ot_41a := Lib.hid (Go.Proofs.Ytpaakpbbahbhcaa.GoV.nest_below Ot_41a.out bt_67)
              replace Ot_66 := Lib.hid (Go.Proofs.Ytpaakpbbahbhcaa.GoV.nest_below Ot_66.out bt_67)
              clear bt_67
              cases t_67 with
              | false =>
                replace H := let_hid H
                obtain ⟨t_68, ht_68, H⟩ := H
                obtain rfl : t_68 = true := ht_68.symm
                replace H := ite_t H
                obtain rfl := ret_hid H
                go_wp2_with fail
                go_ret
                exact ⟨rfl, HBwt_67.out⟩
              | true =>
                replace H := let_hid H
                obtain ⟨t_68, ht_68, H⟩ := H
                obtain rfl : t_68 = false := ht_68.symm
                replace H := ite_f H
                replace H := bind_hid H
                obtain ⟨t_72, qt_72, H⟩ := H
                go_wp2_with fail
                go_at_call 49
                refine (Go.Proofs.Ytpaakpbbahbhcaa.GlToIntS.C (aTraits) A3 c3 _   (Lib.hid (Cells.below M3.out HBwt_67.out)) N3 qt_72).mono ?_
                rintro e_t_72 wt_72 ⟨At_72, ct_72, rfl, ot_72, bt_72⟩
                have Dt_72_t_18 := Lib.hid (Go.Proofs.Ytpaakpbbahbhcaa.GoV.nest_call ot_72 Ot_18.out)
                have Dt_72_t_22 := Lib.hid (apart_call ot_72 Ot_22.out)
                have Dt_72_t_23a := Lib.hid (Go.Proofs.Ytpaakpbbahbhcaa.GoV.nest_call ot_72 Ot_23a.out)
                have Dt_72_t_32 := Lib.hid (Go.Proofs.Ytpaakpbbahbhcaa.GoV.nest_call ot_72 Ot_32.out)
                have Dt_72_t_35 := Lib.hid (apart_call ot_72 Ot_35.out)
                have Dt_72_t_41a := Lib.hid (Go.Proofs.Ytpaakpbbahbhcaa.GoV.nest_call ot_72 Ot_41a.out)
                have Dt_72_t_66 := Lib.hid (Go.Proofs.Ytpaakpbbahbhcaa.GoV.nest_call ot_72 Ot_66.out)
                have Ot_72 := Lib.hid (own_lower ot_72 HBwt_67.out.size)
                clear ot_72
                have HBwt_72 := Lib.hid (Below.step HBwt_67.out bt_72)
                replace Ot_18 := Lib.hid (Go.Proofs.Ytpaakpbbahbhcaa.GoV.nest_below Ot_18.out bt_72)
                replace Ot_22 := Lib.hid (own_below Ot_22.out bt_72)
                replace Ot_23a := Lib.hid (Go.Proofs.Ytpaakpbbahbhcaa.GoV.nest_below Ot_23a.out bt_72)
                replace Ot_32 := Lib.hid (Go.Proofs.Ytpaakpbbahbhcaa.GoV.nest_below Ot_32.out bt_72)
                replace Ot_35 := Lib.hid (own_below Ot_35.out bt_72)
                replace Ot_41a := Lib.hid (Go.Proofs.Ytpaakpbbahbhcaa.GoV.nest_below Ot_41a.out bt_72)
                replace Ot_66 := Lib.hid (Go.Proofs.Ytpaakpbbahbhcaa.GoV.nest_below Ot_66.out bt_72)
                clear bt_72
                replace H := bind_hid H
                obtain ⟨t_73, qt_73, H⟩ := H
                go_wp2_with fail
                go_at_call 37
                refine (Go.Proofs.Ytpaakpbbahbhcaa.GlEqIntS.C (t_35) (t_72) At_35 ct_35 At_72 ct_72 _   (Lib.hid (own_cells Ot_35.out)) (Lib.hid (own_max Ot_35.out)) (Lib.hid (own_cells Ot_72.out)) (Lib.hid (own_max Ot_72.out)) qt_73).mono ?_
                rintro e_t_73 wt_73 ⟨rfl, bt_73⟩
                have HBwt_73 := Lib.hid (Below.step HBwt_72.out bt_73)
                replace Ot_18 := Lib.hid (Go.Proofs.Ytpaakpbbahbhcaa.GoV.nest_below Ot_18.out bt_73)
                replace Ot_22 := Lib.hid (own_below Ot_22.out bt_73)
                replace Ot_23a := Lib.hid (Go.Proofs.Ytpaakpbbahbhcaa.GoV.nest_below Ot_23a.out bt_73)
                replace Ot_32 := Lib.hid (Go.Proofs.Ytpaakpbbahbhcaa.GoV.nest_below Ot_32.out bt_73)
                replace Ot_35 := Lib.hid (own_below Ot_35.out bt_73)
                replace Ot_41a := Lib.hid (Go.Proofs.Ytpaakpbbahbhcaa.GoV.nest_below Ot_41a.out bt_73)
                replace Ot_66 := Lib.hid (Go.Proofs.Ytpaakpbbahbhcaa.GoV.nest_below Ot_66.out bt_73)
                replace Ot_72 := Lib.hid (own_below Ot_72.out bt_73)
                clear bt_73
                cases t_73 with
                | false =>
                  replace H := let_hid H
                  obtain ⟨t_74, ht_74, H⟩ := H
                  obtain rfl : t_74 = true := ht_74.symm
                  replace H := ite_t H
                  obtain rfl := ret_hid H
                  go_wp2_with fail
                  go_ret
                  exact ⟨rfl, HBwt_73.out⟩
                | true =>
                  replace H := let_hid H
                  obtain ⟨t_74, ht_74, H⟩ := H
                  obtain rfl : t_74 = false := ht_74.symm
                  replace H := ite_f H
                  replace H := bind2_hid H
                  obtain ⟨t_79, lt_79, qt_79, H⟩ := H
                  go_wp2_with fail
                  go_at_call 34
                  refine (Go.Proofs.Ytpaakpbbahbhcaa.GlMarkSightingS.C (t_32) (1) At_32 ct_32 w.heap.size Bt_32 _   Ot_32 (Lib.hid (Go.Proofs.Ytpaakpbbahbhcaa.GoV.nest_max Ot_32.out))   qt_79).mono ?_
                  rintro e_t_79 wt_79 ⟨rfl, ot_79, nt_79, gt_79⟩
                  have Pt_79 := Lib.hid ot_79
                  have Gt_79 := Lib.hid gt_79
                  replace nt_79 := Lib.hid nt_79
                  clear ot_79 gt_79
                  have HBwt_79 := Lib.hid (Go.Proofs.Ytpaakpbbahbhcaa.GoN.below_nest HBwt_73.out Gt_79.out HBwt_73.out.size (Go.Proofs.Ytpaakpbbahbhcaa.GoV.nest_lt Ot_32.out))
                  replace Ot_18 := Lib.hid (Go.Proofs.Ytpaakpbbahbhcaa.GoV.nest_otherN Ot_18.out Gt_79.out (Go.Proofs.Ytpaakpbbahbhcaa.GoN.nest_flip Dt_32_t_18.out))
                  replace Ot_22 := Lib.hid (Go.Proofs.Ytpaakpbbahbhcaa.GoN.own_otherN Ot_22.out Gt_79.out Dt_32_t_22.out)
                  replace Ot_23a := Lib.hid (Go.Proofs.Ytpaakpbbahbhcaa.GoV.nest_otherN Ot_23a.out Gt_79.out (Go.Proofs.Ytpaakpbbahbhcaa.GoN.nest_flip Dt_32_t_23a.out))
                  replace Ot_35 := Lib.hid (Go.Proofs.Ytpaakpbbahbhcaa.GoN.own_otherN Ot_35.out Gt_79.out Dt_35_t_32.out)
                  replace Ot_41a := Lib.hid (Go.Proofs.Ytpaakpbbahbhcaa.GoV.nest_otherN Ot_41a.out Gt_79.out Dt_41a_t_32.out)
                  replace Ot_66 := Lib.hid (Go.Proofs.Ytpaakpbbahbhcaa.GoV.nest_otherN Ot_66.out Gt_79.out Dt_66_t_32.out)
                  replace Ot_72 := Lib.hid (Go.Proofs.Ytpaakpbbahbhcaa.GoN.own_otherN Ot_72.out Gt_79.out Dt_72_t_32.out)
                  clear Ot_32 Gt_79
                  replace H := bind2_hid H
                  obtain ⟨t_83, lt_83, qt_83, H⟩ := H
                  go_wp2_with fail
                  go_at_call 38
                  refine (Go.Proofs.Ytpaakpbbahbhcaa.GlMarkIntS.C (t_35) (t_79) At_35 ct_35 w.heap.size _   Ot_35 (Lib.hid (own_max Ot_35.out))   qt_83).mono ?_
                  rintro e_t_83 wt_83 ⟨rfl, ot_83, nt_83, gt_83⟩
                  have Pt_83 := Lib.hid ot_83
                  have Gt_83 := Lib.hid gt_83
                  replace nt_83 := Lib.hid nt_83
                  clear ot_83 gt_83
                  have HBwt_83 := Lib.hid (HBwt_79.out.grown Gt_83.out HBwt_79.out.size (fun q hq => (Ot_35.out.lt q hq).1))
                  replace Ot_18 := Lib.hid (Go.Proofs.Ytpaakpbbahbhcaa.GoV.nest_other Ot_18.out Gt_83.out Dt_35_t_18.out)
                  replace Ot_22 := Lib.hid (own_other Ot_22.out Gt_83.out Dt_35_t_22.out)
                  replace Ot_23a := Lib.hid (Go.Proofs.Ytpaakpbbahbhcaa.GoV.nest_other Ot_23a.out Gt_83.out Dt_35_t_23a.out)
                  replace Pt_79 := Lib.hid (Go.Proofs.Ytpaakpbbahbhcaa.GoV.nest_other Pt_79.out Gt_83.out Dt_35_t_32.out)
                  replace Ot_41a := Lib.hid (Go.Proofs.Ytpaakpbbahbhcaa.GoV.nest_other Ot_41a.out Gt_83.out Dt_41a_t_35.out)
                  replace Ot_66 := Lib.hid (Go.Proofs.Ytpaakpbbahbhcaa.GoV.nest_other Ot_66.out Gt_83.out Dt_66_t_35.out)
                  replace Ot_72 := Lib.hid (own_other Ot_72.out Gt_83.out (Apart.symm Dt_72_t_35.out))
                  clear Ot_35 Gt_83
                  replace H := let_hid H
                  obtain ⟨t_86, ht_86, H⟩ := H
                  replace H := join_hid H
                  cases t_86 with
                  | false =>
                    replace H := ite_f H
                    replace H := bind_hid H
                    obtain ⟨t_90, qt_90, H⟩ := H
                    go_wp2_with fail
                    go_at_call 32
                    refine (Go.Proofs.Ytpaakpbbahbhcaa.GlEqSightingS.C (t_41a) (t_23a) At_41a ct_41a At_23a ct_23a _   (Lib.hid (Go.Proofs.Ytpaakpbbahbhcaa.GoV.nest_read Ot_41a.out)) (Lib.hid (Go.Proofs.Ytpaakpbbahbhcaa.GoV.nest_max Ot_41a.out)) (Lib.hid (Go.Proofs.Ytpaakpbbahbhcaa.GoV.nest_read Ot_23a.out)) (Lib.hid (Go.Proofs.Ytpaakpbbahbhcaa.GoV.nest_max Ot_23a.out)) qt_90).mono ?_
                    rintro e_t_90 wt_90 ⟨rfl, bt_90⟩
                    have HBwt_90 := Lib.hid (Below.step HBwt_83.out bt_90)
                    replace Ot_18 := Lib.hid (Go.Proofs.Ytpaakpbbahbhcaa.GoV.nest_below Ot_18.out bt_90)
                    replace Ot_22 := Lib.hid (own_below Ot_22.out bt_90)
                    replace Ot_23a := Lib.hid (Go.Proofs.Ytpaakpbbahbhcaa.GoV.nest_below Ot_23a.out bt_90)
                    replace Pt_79 := Lib.hid (Go.Proofs.Ytpaakpbbahbhcaa.GoV.nest_below Pt_79.out bt_90)
                    replace Pt_83 := Lib.hid (own_below Pt_83.out bt_90)
                    replace Ot_41a := Lib.hid (Go.Proofs.Ytpaakpbbahbhcaa.GoV.nest_below Ot_41a.out bt_90)
                    replace Ot_66 := Lib.hid (Go.Proofs.Ytpaakpbbahbhcaa.GoV.nest_below Ot_66.out bt_90)
                    replace Ot_72 := Lib.hid (own_below Ot_72.out bt_90)
                    clear bt_90
                    cases t_90 with
                    | false =>
                      replace H := let_hid H
                      obtain ⟨t_91, ht_91, H⟩ := H
                      obtain rfl : t_91 = true := ht_91.symm
                      replace H := app_hid H
                      replace H := join_hid H
                      replace H := ite_t H
                      replace H := app_hid H
                      replace H := join_hid H
                      replace H := ite_t H
                      replace H := app_hid H
                      replace H := ite_t H
                      obtain rfl := ret_hid H
                      go_wp2_with fail
                      go_ret
                      exact ⟨rfl, HBwt_90.out⟩
                    | true =>
                      replace H := let_hid H
                      obtain ⟨t_91, ht_91, H⟩ := H
                      obtain rfl : t_91 = false := ht_91.symm
                      replace H := app_hid H
                      replace H := join_hid H
                      replace H := ite_f H
                      replace H := let_hid H
                      obtain ⟨t_96, ht_96, H⟩ := H
                      obtain rfl := ht_56.symm.trans ht_96
                      replace H := app_hid H
                      replace H := join_hid H
                      replace H := ite_f H
                      replace H := let_hid H
                      obtain ⟨t_101, ht_101, H⟩ := H
                      obtain rfl := ht_61.symm.trans ht_101
                      replace H := app_hid H
                      replace H := ite_f H
                      replace H := bind2_hid H
                      obtain ⟨t_107, lt_107, qt_107, H⟩ := H
                      go_wp2_with fail
                      go_at_call 34
                      refine (Go.Proofs.Ytpaakpbbahbhcaa.GlMarkSightingS.C (t_41a) (1) At_41a ct_41a w.heap.size Bt_41a _   Ot_41a (Lib.hid (Go.Proofs.Ytpaakpbbahbhcaa.GoV.nest_max Ot_41a.out))   qt_107).mono ?_
                      rintro e_t_107 wt_107 ⟨rfl, ot_107, nt_107, gt_107⟩
                      have Pt_107 := Lib.hid ot_107
                      have Gt_107 := Lib.hid gt_107
                      replace nt_107 := Lib.hid nt_107
                      clear ot_107 gt_107
                      have HBwt_107 := Lib.hid (Go.Proofs.Ytpaakpbbahbhcaa.GoN.below_nest HBwt_90.out Gt_107.out HBwt_90.out.size (Go.Proofs.Ytpaakpbbahbhcaa.GoV.nest_lt Ot_41a.out))
                      replace Ot_18 := Lib.hid (Go.Proofs.Ytpaakpbbahbhcaa.GoV.nest_otherN Ot_18.out Gt_107.out (Go.Proofs.Ytpaakpbbahbhcaa.GoN.nest_flip Dt_41a_t_18.out))
                      replace Ot_22 := Lib.hid (Go.Proofs.Ytpaakpbbahbhcaa.GoN.own_otherN Ot_22.out Gt_107.out Dt_41a_t_22.out)
                      replace Ot_23a := Lib.hid (Go.Proofs.Ytpaakpbbahbhcaa.GoV.nest_otherN Ot_23a.out Gt_107.out (Go.Proofs.Ytpaakpbbahbhcaa.GoN.nest_flip Dt_41a_t_23a.out))
                      replace Pt_79 := Lib.hid (Go.Proofs.Ytpaakpbbahbhcaa.GoV.nest_otherN Pt_79.out Gt_107.out (Go.Proofs.Ytpaakpbbahbhcaa.GoN.nest_flip Dt_41a_t_32.out))
                      replace Pt_83 := Lib.hid (Go.Proofs.Ytpaakpbbahbhcaa.GoN.own_otherN Pt_83.out Gt_107.out Dt_41a_t_35.out)
                      replace Ot_66 := Lib.hid (Go.Proofs.Ytpaakpbbahbhcaa.GoV.nest_otherN Ot_66.out Gt_107.out Dt_66_t_41a.out)
                      replace Ot_72 := Lib.hid (Go.Proofs.Ytpaakpbbahbhcaa.GoN.own_otherN Ot_72.out Gt_107.out Dt_72_t_41a.out)
                      clear Ot_41a Gt_107
                      replace H := bind_hid H
                      obtain ⟨t_112, qt_112, H⟩ := H
                      go_wp2_with fail
                      have hc_ := nt_107.out
                      have hv_ : (Value.slice At_41a t_41a.length ct_41a : Value) = Value.slice At_41a lt_107.length ct_41a := by rw [hc_]
                      try rw [hv_]
                      clear hc_ hv_
                      go_wp2_with fail
                      go_at_call 51
                      refine (Go.Proofs.Ytpaakpbbahbhcaa.GlHeldSightingS.C (lt_107) (1) At_41a ct_41a _   (Lib.hid (Go.Proofs.Ytpaakpbbahbhcaa.GoV.nest_read Pt_107.out)) (Lib.hid (Go.Proofs.Ytpaakpbbahbhcaa.GoV.nest_max Pt_107.out)) qt_112).mono ?_
                      rintro e_t_112 wt_112 ⟨rfl, bt_112⟩
                      have HBwt_112 := Lib.hid (Below.step HBwt_107.out bt_112)
                      replace Ot_18 := Lib.hid (Go.Proofs.Ytpaakpbbahbhcaa.GoV.nest_below Ot_18.out bt_112)
                      replace Ot_22 := Lib.hid (own_below Ot_22.out bt_112)
                      replace Ot_23a := Lib.hid (Go.Proofs.Ytpaakpbbahbhcaa.GoV.nest_below Ot_23a.out bt_112)
                      replace Pt_79 := Lib.hid (Go.Proofs.Ytpaakpbbahbhcaa.GoV.nest_below Pt_79.out bt_112)
                      replace Pt_83 := Lib.hid (own_below Pt_83.out bt_112)
                      replace Pt_107 := Lib.hid (Go.Proofs.Ytpaakpbbahbhcaa.GoV.nest_below Pt_107.out bt_112)
                      replace Ot_66 := Lib.hid (Go.Proofs.Ytpaakpbbahbhcaa.GoV.nest_below Ot_66.out bt_112)
                      replace Ot_72 := Lib.hid (own_below Ot_72.out bt_112)
                      clear bt_112
                      replace H := let_hid H
                      obtain ⟨t_115, ht_115, H⟩ := H
                      cases t_115 with
                      | false =>
                        replace H := ite_f H
                        replace H := let_hid H
                        obtain ⟨t_119, ht_119, H⟩ := H
                        cases t_119 with
                        | false =>
                          replace H := ite_f H
                          replace H := bind_hid H
                          obtain ⟨t_122, qt_122, H⟩ := H
                          go_wp2_with fail
                          go_at_call 31
                          refine (Go.Proofs.Ytpaakpbbahbhcaa.GlToSightingS.C (aList) A0 c0 _   (Lib.hid (Go.Proofs.Ytpaakpbbahbhcaa.GoV.read_below M0.out HBwt_112.out)) N0 qt_122).mono ?_
                          rintro e_t_122 wt_122 ⟨At_122, ct_122, rfl, ⟨Bt_122, ot_122⟩, bt_122⟩
                          have Dt_122_t_18 := Lib.hid (Go.Proofs.Ytpaakpbbahbhcaa.GoV.lts_apart (Go.Proofs.Ytpaakpbbahbhcaa.GoV.nest_lt ot_122) (Go.Proofs.Ytpaakpbbahbhcaa.GoV.nest_lt Ot_18.out))
                          have Dt_122_t_22 := Lib.hid (Go.Proofs.Ytpaakpbbahbhcaa.GoV.nest_callrow ot_122 Ot_22.out)
                          have Dt_122_t_23a := Lib.hid (Go.Proofs.Ytpaakpbbahbhcaa.GoV.lts_apart (Go.Proofs.Ytpaakpbbahbhcaa.GoV.nest_lt ot_122) (Go.Proofs.Ytpaakpbbahbhcaa.GoV.nest_lt Ot_23a.out))
                          have Dt_122_t_32 := Lib.hid (Go.Proofs.Ytpaakpbbahbhcaa.GoV.lts_apart (Go.Proofs.Ytpaakpbbahbhcaa.GoV.nest_lt ot_122) (Go.Proofs.Ytpaakpbbahbhcaa.GoV.nest_lt Pt_79.out))
                          have Dt_122_t_35 := Lib.hid (Go.Proofs.Ytpaakpbbahbhcaa.GoV.nest_callrow ot_122 Pt_83.out)
                          have Dt_122_t_41a := Lib.hid (Go.Proofs.Ytpaakpbbahbhcaa.GoV.lts_apart (Go.Proofs.Ytpaakpbbahbhcaa.GoV.nest_lt ot_122) (Go.Proofs.Ytpaakpbbahbhcaa.GoV.nest_lt Pt_107.out))
                          have Dt_122_t_66 := Lib.hid (Go.Proofs.Ytpaakpbbahbhcaa.GoV.lts_apart (Go.Proofs.Ytpaakpbbahbhcaa.GoV.nest_lt ot_122) (Go.Proofs.Ytpaakpbbahbhcaa.GoV.nest_lt Ot_66.out))
                          have Dt_122_t_72 := Lib.hid (Go.Proofs.Ytpaakpbbahbhcaa.GoV.nest_callrow ot_122 Ot_72.out)
                          have Ot_122 := Lib.hid (Go.Proofs.Ytpaakpbbahbhcaa.GoV.nest_lower ot_122 HBwt_112.out.size)
                          clear ot_122
                          have HBwt_122 := Lib.hid (Below.step HBwt_112.out bt_122)
                          replace Ot_18 := Lib.hid (Go.Proofs.Ytpaakpbbahbhcaa.GoV.nest_below Ot_18.out bt_122)
                          replace Ot_22 := Lib.hid (own_below Ot_22.out bt_122)
                          replace Ot_23a := Lib.hid (Go.Proofs.Ytpaakpbbahbhcaa.GoV.nest_below Ot_23a.out bt_122)
                          replace Pt_79 := Lib.hid (Go.Proofs.Ytpaakpbbahbhcaa.GoV.nest_below Pt_79.out bt_122)
                          replace Pt_83 := Lib.hid (own_below Pt_83.out bt_122)
                          replace Pt_107 := Lib.hid (Go.Proofs.Ytpaakpbbahbhcaa.GoV.nest_below Pt_107.out bt_122)
                          replace Ot_66 := Lib.hid (Go.Proofs.Ytpaakpbbahbhcaa.GoV.nest_below Ot_66.out bt_122)
                          replace Ot_72 := Lib.hid (own_below Ot_72.out bt_122)
                          clear bt_122
                          replace H := bind_hid H
                          obtain ⟨t_126, qt_126, H⟩ := H
                          go_wp2_with fail
                          go_at_call 49
                          refine (Go.Proofs.Ytpaakpbbahbhcaa.GlToIntS.C (aTraits) A3 c3 _   (Lib.hid (Cells.below M3.out HBwt_122.out)) N3 qt_126).mono ?_
                          rintro e_t_126 wt_126 ⟨At_126, ct_126, rfl, ot_126, bt_126⟩
                          have Dt_126_t_18 := Lib.hid (Go.Proofs.Ytpaakpbbahbhcaa.GoV.nest_call ot_126 Ot_18.out)
                          have Dt_126_t_22 := Lib.hid (apart_call ot_126 Ot_22.out)
                          have Dt_126_t_23a := Lib.hid (Go.Proofs.Ytpaakpbbahbhcaa.GoV.nest_call ot_126 Ot_23a.out)
                          have Dt_126_t_32 := Lib.hid (Go.Proofs.Ytpaakpbbahbhcaa.GoV.nest_call ot_126 Pt_79.out)
                          have Dt_126_t_35 := Lib.hid (apart_call ot_126 Pt_83.out)
                          have Dt_126_t_41a := Lib.hid (Go.Proofs.Ytpaakpbbahbhcaa.GoV.nest_call ot_126 Pt_107.out)
                          have Dt_126_t_66 := Lib.hid (Go.Proofs.Ytpaakpbbahbhcaa.GoV.nest_call ot_126 Ot_66.out)
                          have Dt_126_t_72 := Lib.hid (apart_call ot_126 Ot_72.out)
                          have Dt_126_t_122 := Lib.hid (Go.Proofs.Ytpaakpbbahbhcaa.GoV.nest_call ot_126 Ot_122.out)
                          have Ot_126 := Lib.hid (own_lower ot_126 HBwt_122.out.size)
                          clear ot_126
                          have HBwt_126 := Lib.hid (Below.step HBwt_122.out bt_126)
                          replace Ot_18 := Lib.hid (Go.Proofs.Ytpaakpbbahbhcaa.GoV.nest_below Ot_18.out bt_126)
                          replace Ot_22 := Lib.hid (own_below Ot_22.out bt_126)
                          replace Ot_23a := Lib.hid (Go.Proofs.Ytpaakpbbahbhcaa.GoV.nest_below Ot_23a.out bt_126)
                          replace Pt_79 := Lib.hid (Go.Proofs.Ytpaakpbbahbhcaa.GoV.nest_below Pt_79.out bt_126)
                          replace Pt_83 := Lib.hid (own_below Pt_83.out bt_126)
                          replace Pt_107 := Lib.hid (Go.Proofs.Ytpaakpbbahbhcaa.GoV.nest_below Pt_107.out bt_126)
                          replace Ot_66 := Lib.hid (Go.Proofs.Ytpaakpbbahbhcaa.GoV.nest_below Ot_66.out bt_126)
                          replace Ot_72 := Lib.hid (own_below Ot_72.out bt_126)
                          replace Ot_122 := Lib.hid (Go.Proofs.Ytpaakpbbahbhcaa.GoV.nest_below Ot_122.out bt_126)
                          clear bt_126
                          replace H := bind3_hid H
                          obtain ⟨t_127a, t_127b, t_127c, qt_127, H⟩ := H
                          go_wp2_with fail
                          go_at_call 50
                          refine (Go.Proofs.Ytpaakpbbahbhcaa.GiAddSighting.C (t_122) (aYear) (aTown) (t_126) At_122 ct_122 At_126 ct_126 _   (Lib.hid (Go.Proofs.Ytpaakpbbahbhcaa.GoV.nest_read Ot_122.out)) (Lib.hid (Go.Proofs.Ytpaakpbbahbhcaa.GoV.nest_max Ot_122.out)) (Lib.hid (Go.Proofs.Ytpaakpbbahbhcaa.GoV.nest_room Ot_122.out)) (Lib.hid (own_cells Ot_126.out)) (Lib.hid (own_max Ot_126.out)) (Lib.hid (own_room Ot_126.out)) qt_127).mono ?_
                          rintro e_t_127 wt_127 ⟨At_127a, ct_127a, rfl, ⟨Bt_127a, ot_127a⟩, bt_127⟩
                          have Dt_127a_t_18 := Lib.hid (Go.Proofs.Ytpaakpbbahbhcaa.GoV.lts_apart (Go.Proofs.Ytpaakpbbahbhcaa.GoV.nest_lt ot_127a) (Go.Proofs.Ytpaakpbbahbhcaa.GoV.nest_lt Ot_18.out))
                          have Dt_127a_t_22 := Lib.hid (Go.Proofs.Ytpaakpbbahbhcaa.GoV.nest_callrow ot_127a Ot_22.out)
                          have Dt_127a_t_23a := Lib.hid (Go.Proofs.Ytpaakpbbahbhcaa.GoV.lts_apart (Go.Proofs.Ytpaakpbbahbhcaa.GoV.nest_lt ot_127a) (Go.Proofs.Ytpaakpbbahbhcaa.GoV.nest_lt Ot_23a.out))
                          have Dt_127a_t_32 := Lib.hid (Go.Proofs.Ytpaakpbbahbhcaa.GoV.lts_apart (Go.Proofs.Ytpaakpbbahbhcaa.GoV.nest_lt ot_127a) (Go.Proofs.Ytpaakpbbahbhcaa.GoV.nest_lt Pt_79.out))
                          have Dt_127a_t_35 := Lib.hid (Go.Proofs.Ytpaakpbbahbhcaa.GoV.nest_callrow ot_127a Pt_83.out)
                          have Dt_127a_t_41a := Lib.hid (Go.Proofs.Ytpaakpbbahbhcaa.GoV.lts_apart (Go.Proofs.Ytpaakpbbahbhcaa.GoV.nest_lt ot_127a) (Go.Proofs.Ytpaakpbbahbhcaa.GoV.nest_lt Pt_107.out))
                          have Dt_127a_t_66 := Lib.hid (Go.Proofs.Ytpaakpbbahbhcaa.GoV.lts_apart (Go.Proofs.Ytpaakpbbahbhcaa.GoV.nest_lt ot_127a) (Go.Proofs.Ytpaakpbbahbhcaa.GoV.nest_lt Ot_66.out))
                          have Dt_127a_t_72 := Lib.hid (Go.Proofs.Ytpaakpbbahbhcaa.GoV.nest_callrow ot_127a Ot_72.out)
                          have Dt_127a_t_122 := Lib.hid (Go.Proofs.Ytpaakpbbahbhcaa.GoV.lts_apart (Go.Proofs.Ytpaakpbbahbhcaa.GoV.nest_lt ot_127a) (Go.Proofs.Ytpaakpbbahbhcaa.GoV.nest_lt Ot_122.out))
                          have Dt_127a_t_126 := Lib.hid (Go.Proofs.Ytpaakpbbahbhcaa.GoV.nest_callrow ot_127a Ot_126.out)
                          have Ot_127a := Lib.hid (Go.Proofs.Ytpaakpbbahbhcaa.GoV.nest_lower ot_127a HBwt_126.out.size)
                          clear ot_127a
                          have HBwt_127 := Lib.hid (Below.step HBwt_126.out bt_127)
                          replace Ot_18 := Lib.hid (Go.Proofs.Ytpaakpbbahbhcaa.GoV.nest_below Ot_18.out bt_127)
                          replace Ot_22 := Lib.hid (own_below Ot_22.out bt_127)
                          replace Ot_23a := Lib.hid (Go.Proofs.Ytpaakpbbahbhcaa.GoV.nest_below Ot_23a.out bt_127)
                          replace Pt_79 := Lib.hid (Go.Proofs.Ytpaakpbbahbhcaa.GoV.nest_below Pt_79.out bt_127)
                          replace Pt_83 := Lib.hid (own_below Pt_83.out bt_127)
                          replace Pt_107 := Lib.hid (Go.Proofs.Ytpaakpbbahbhcaa.GoV.nest_below Pt_107.out bt_127)
                          replace Ot_66 := Lib.hid (Go.Proofs.Ytpaakpbbahbhcaa.GoV.nest_below Ot_66.out bt_127)
                          replace Ot_72 := Lib.hid (own_below Ot_72.out bt_127)
                          replace Ot_122 := Lib.hid (Go.Proofs.Ytpaakpbbahbhcaa.GoV.nest_below Ot_122.out bt_127)
                          replace Ot_126 := Lib.hid (own_below Ot_126.out bt_127)
                          clear bt_127
                          replace H := bind_hid H
                          obtain ⟨t_137, qt_137, H⟩ := H
                          go_wp2_with fail
                          go_at_call 32
                          refine (Go.Proofs.Ytpaakpbbahbhcaa.GlEqSightingS.C (t_127a) (t_23a) At_127a ct_127a At_23a ct_23a _   (Lib.hid (Go.Proofs.Ytpaakpbbahbhcaa.GoV.nest_read Ot_127a.out)) (Lib.hid (Go.Proofs.Ytpaakpbbahbhcaa.GoV.nest_max Ot_127a.out)) (Lib.hid (Go.Proofs.Ytpaakpbbahbhcaa.GoV.nest_read Ot_23a.out)) (Lib.hid (Go.Proofs.Ytpaakpbbahbhcaa.GoV.nest_max Ot_23a.out)) qt_137).mono ?_
                          rintro e_t_137 wt_137 ⟨rfl, bt_137⟩
                          have HBwt_137 := Lib.hid (Below.step HBwt_127.out bt_137)
                          replace Ot_18 := Lib.hid (Go.Proofs.Ytpaakpbbahbhcaa.GoV.nest_below Ot_18.out bt_137)
                          replace Ot_22 := Lib.hid (own_below Ot_22.out bt_137)
                          replace Ot_23a := Lib.hid (Go.Proofs.Ytpaakpbbahbhcaa.GoV.nest_below Ot_23a.out bt_137)
                          replace Pt_79 := Lib.hid (Go.Proofs.Ytpaakpbbahbhcaa.GoV.nest_below Pt_79.out bt_137)
                          replace Pt_83 := Lib.hid (own_below Pt_83.out bt_137)
                          replace Pt_107 := Lib.hid (Go.Proofs.Ytpaakpbbahbhcaa.GoV.nest_below Pt_107.out bt_137)
                          replace Ot_66 := Lib.hid (Go.Proofs.Ytpaakpbbahbhcaa.GoV.nest_below Ot_66.out bt_137)
                          replace Ot_72 := Lib.hid (own_below Ot_72.out bt_137)
                          replace Ot_122 := Lib.hid (Go.Proofs.Ytpaakpbbahbhcaa.GoV.nest_below Ot_122.out bt_137)
                          replace Ot_126 := Lib.hid (own_below Ot_126.out bt_137)
                          replace Ot_127a := Lib.hid (Go.Proofs.Ytpaakpbbahbhcaa.GoV.nest_below Ot_127a.out bt_137)
                          clear bt_137
                          cases t_137 with
                          | false =>
                            replace H := let_hid H
                            obtain ⟨t_138, ht_138, H⟩ := H
                            obtain rfl : t_138 = true := ht_138.symm
                            replace H := join_hid H
                            replace H := ite_t H
                            replace H := app_hid H
                            replace H := join_hid H
                            replace H := ite_t H
                            replace H := app_hid H
                            replace H := ite_t H
                            obtain rfl := ret_hid H
                            go_wp2_with fail
                            go_ret
                            exact ⟨rfl, HBwt_137.out⟩
                          | true =>
                            replace H := let_hid H
                            obtain ⟨t_138, ht_138, H⟩ := H
                            obtain rfl : t_138 = false := ht_138.symm
                            replace H := join_hid H
                            replace H := ite_f H
                            replace H := let_hid H
                            obtain ⟨t_142, ht_142, H⟩ := H
                            replace H := app_hid H
                            replace H := join_hid H
                            cases t_142 with
                            | false =>
                              replace H := ite_f H
                              replace H := let_hid H
                              obtain ⟨t_147, ht_147, H⟩ := H
                              replace H := app_hid H
                              cases t_147 with
                              | false =>
                                replace H := ite_f H
                                replace H := bind_hid H
                                obtain ⟨t_153, qt_153, H⟩ := H
                                go_wp2_with fail
                                go_at_call 51
                                refine (Go.Proofs.Ytpaakpbbahbhcaa.GlHeldSightingS.C (lt_107) (1) At_41a ct_41a _   (Lib.hid (Go.Proofs.Ytpaakpbbahbhcaa.GoV.nest_read Pt_107.out)) (Lib.hid (Go.Proofs.Ytpaakpbbahbhcaa.GoV.nest_max Pt_107.out)) qt_153).mono ?_
                                rintro e_t_153 wt_153 ⟨rfl, bt_153⟩
                                have HBwt_153 := Lib.hid (Below.step HBwt_137.out bt_153)
                                replace Ot_18 := Lib.hid (Go.Proofs.Ytpaakpbbahbhcaa.GoV.nest_below Ot_18.out bt_153)
                                replace Ot_22 := Lib.hid (own_below Ot_22.out bt_153)
                                replace Ot_23a := Lib.hid (Go.Proofs.Ytpaakpbbahbhcaa.GoV.nest_below Ot_23a.out bt_153)
                                replace Pt_79 := Lib.hid (Go.Proofs.Ytpaakpbbahbhcaa.GoV.nest_below Pt_79.out bt_153)
                                replace Pt_83 := Lib.hid (own_below Pt_83.out bt_153)
                                replace Pt_107 := Lib.hid (Go.Proofs.Ytpaakpbbahbhcaa.GoV.nest_below Pt_107.out bt_153)
                                replace Ot_66 := Lib.hid (Go.Proofs.Ytpaakpbbahbhcaa.GoV.nest_below Ot_66.out bt_153)
                                replace Ot_72 := Lib.hid (own_below Ot_72.out bt_153)
                                replace Ot_122 := Lib.hid (Go.Proofs.Ytpaakpbbahbhcaa.GoV.nest_below Ot_122.out bt_153)
                                replace Ot_126 := Lib.hid (own_below Ot_126.out bt_153)
                                replace Ot_127a := Lib.hid (Go.Proofs.Ytpaakpbbahbhcaa.GoV.nest_below Ot_127a.out bt_153)
                                clear bt_153
                                replace H := let_hid H
                                obtain ⟨t_156, ht_156, H⟩ := H
                                cases t_156 with
                                | false =>
                                  replace H := ite_f H
                                  replace H := let_hid H
                                  obtain ⟨t_160, ht_160, H⟩ := H
                                  cases t_160 with
                                  | false =>
                                    replace H := ite_f H
                                    obtain rfl := ret_hid H
                                    go_wp2_with fail
                                    go_ret
                                    exact ⟨rfl, HBwt_153.out⟩
                                  | true =>
                                    replace H := ite_t H
                                    obtain rfl := ret_hid H
                                    go_wp2_with fail
                                    go_ret
                                    exact ⟨rfl, HBwt_153.out⟩
                                | true =>
                                  replace H := ite_t H
                                  obtain rfl := ret_hid H
                                  go_wp2_with fail
                                  go_ret
                                  exact ⟨rfl, HBwt_153.out⟩
                              | true =>
                                replace H := ite_t H
                                obtain rfl := ret_hid H
                                go_wp2_with fail
                                go_ret
                                exact ⟨rfl, HBwt_137.out⟩
                            | true =>
                              replace H := ite_t H
                              replace H := app_hid H
                              replace H := ite_t H
                              obtain rfl := ret_hid H
                              go_wp2_with fail
                              go_ret
                              exact ⟨rfl, HBwt_137.out⟩
                        | true =>
                          replace H := ite_t H
                          obtain rfl := ret_hid H
                          go_wp2_with fail
                          go_ret
                          exact ⟨rfl, HBwt_112.out⟩
                      | true =>
                        replace H := ite_t H
                        obtain rfl := ret_hid H
                        go_wp2_with fail
                        go_ret
                        exact ⟨rfl, HBwt_112.out⟩
                  | true =>
                    replace H := ite_t H
                    replace H := app_hid H
                    replace H := join_hid H
                    replace H := ite_t H
                    replace H := app_hid H
                    replace H := join_hid H
                    replace H := ite_t H
                    replace H := app_hid H
                    replace H := ite_t H
                    obtain rfl := ret_hid H
                    go_wp2_with fail
                    go_ret
                    exact ⟨rfl, HBwt_83.out⟩
            | true =>
              replace H := ite_t H
              obtain rfl := ret_hid H
              go_wp2_with fail
              go_ret
              exact ⟨rfl, HBwt_51.out⟩
          | true =>
            replace H := ite_t H
            replace H := app_hid H
            replace H := ite_t H
            obtain rfl := ret_hid H
            go_wp2_with fail
            go_ret
            exact ⟨rfl, HBwt_51.out⟩
      | true =>
        replace H := ite_t H
        obtain rfl := ret_hid H
        go_wp2_with fail
        go_ret
        exact ⟨rfl, HBwt_12.out⟩
    | true =>
      have nht_7 : 1048576 < aTraits.length := by have := of_decide_eq_true ht_7; omega
      replace H := ite_t H
      obtain rfl := ret_hid H
      go_wp2_with fail
      go_ret
      exact ⟨rfl, HB.out⟩
  | true =>
    have nht_3 : 1048576 < aTown.size := by have := of_decide_eq_true ht_3; omega
    replace H := ite_t H
    obtain rfl := ret_hid H
    go_wp2_with fail
    go_ret
    exact ⟨rfl, HB.out⟩
end Go.Proofs.Ytpaakpbbahbhcaa.GlFnExactAddSighting

/- Plain words on stamps: what a stamp is, when one is valid, when a list of them is; the cells of a list of records. No condition. -/
namespace Go.Proofs.Ytpaakpbbahbhcaa.PlainStamp
set_option linter.unusedVariables false

/-- a number lies in a..b -/
def inB (x a b : Int) : Bool := decide (a ≤ x ∧ x ≤ b)
theorem inB_of {x a b : Int} (h : inB x a b = true) : a ≤ x ∧ x ≤ b := by unfold inB at h; exact of_decide_eq_true h
structure St where
  id : Int
  face : Int
  color : Int
  year : Int
deriving DecidableEq

def St.cells (s : St) : List Value := [.int .i64 s.id, .int .i64 s.face, .int .i64 s.color, .int .i64 s.year]
def St.val (s : St) : Value := .agg #[.int .i64 s.id, .int .i64 s.face, .int .i64 s.color, .int .i64 s.year]
/-- each field fits an int -/
def St.fits (s : St) : Prop := (Lit.int .i64 s.id).wf = true ∧ (Lit.int .i64 s.face).wf = true ∧ (Lit.int .i64 s.color).wf = true ∧ (Lit.int .i64 s.year).wf = true

def okSt (s : St) : Bool := inB s.id 1 999 && inB s.face 0 9999 && inB s.color 0 99 && inB s.year 1840 2100
/-- the stamp at k is valid, and its id is above the one ahead of it -/
def okAt (l : List St) (k : Nat) : Bool :=
  match l[k]? with
  | none => true
  | some s => okSt s && (decide (k = 0) || (match l[k-1]? with | none => true | some r => decide (r.id < s.id)))
def okUp (l : List St) (k : Nat) : Bool := (List.range k).all (okAt l)
/-- a list of at most twelve valid stamps with rising ids -/
def okSts (l : List St) : Bool := decide (l.length ≤ 12) && okUp l l.length
/-- the cells of a list of stamps, one after the other -/
def flat (l : List St) : List Value := l.flatMap St.cells
theorem flat_cons (s : St) (l : List St) : flat (s :: l) = s.cells ++ flat l := by simp [flat]
theorem flat_len (l : List St) : (flat l).length = l.length * 4 := by
  induction l with
  | nil => rfl
  | cons s l ih => rw [flat_cons, List.length_append, ih]; simp [St.cells]; omega
theorem flat_at : ∀ (l : List St) (k : Nat) (s : St), l[k]? = some s → ∀ j, j < 4 → (flat l)[k * 4 + j]? = s.cells[j]?
  | [], k, s, h, _, _ => by simp at h
  | r :: l, 0, s, h, j, hj => by
    obtain rfl : r = s := by simpa using h
    rw [flat_cons, List.getElem?_append_left (by simp [St.cells]; omega)]; simp
  | r :: l, k + 1, s, h, j, hj => by
    rw [flat_cons, List.getElem?_append_right (by simp [St.cells]; omega), show (k + 1) * 4 + j - r.cells.length = k * 4 + j by simp [St.cells]; omega]
    exact flat_at l k s (by simpa using h) j hj
end Go.Proofs.Ytpaakpbbahbhcaa.PlainStamp

/- Words for reckoning with plain functions; within and l1In. No condition. -/
namespace Go.Proofs.Ytpaakpbbahbhcaa.QBase
set_option linter.unusedVariables false
set_option linter.unusedSimpArgs false
open Go.RowKit
open Go.Proofs.Ytpaakpbbahbhcaa.GoP Go.Proofs.Ytpaakpbbahbhcaa.PlainStamp

theorem iteK_if {ρ : Type} (c : Bool) (a b : Option ρ) : iteK c a b = if c = true then a else b := by cases c <;> rfl
theorem guardK_pos {ρ : Type} {p : Prop} [Decidable p] {a : Option ρ} (h : p) : guardK p a = a := if_pos h
theorem within_eq (n a b : Int) : GiWithin.P n a b = some (inB n a b) := by
  simp only [GiWithin.P, letK, joinK, appK, iteK_if, inB]
  by_cases h1 : a ≤ n <;> by_cases h2 : n ≤ b <;> simp [h1, h2]
theorem l1In_eq (n a b : Int) : GsL1In.P n a b = some (inB n a b) := by
  simp only [GsL1In.P, letK, joinK, appK, iteK_if, inB]
  by_cases h1 : a ≤ n <;> by_cases h2 : n ≤ b <;> simp [h1, h2]
end Go.Proofs.Ytpaakpbbahbhcaa.QBase

/- Reckoning with the loops of plain functions; lists of valid records with rising ids. No condition. -/
namespace Go.Proofs.Ytpaakpbbahbhcaa.QLoop
set_option linter.unusedVariables false
open Go.RowKit
open Go.Proofs.Ytpaakpbbahbhcaa.GoP Go.Proofs.Ytpaakpbbahbhcaa.QBase

theorem cnt_ex {σ ρ : Type} {f : Nat → σ → (σ → Option ρ) → (σ → Option ρ) → Option ρ} {fin : σ → Option ρ} {Q : ρ → Prop} {n : Nat} (I : Nat → σ → Prop)
    (step : ∀ k s nx, k < n → I k s → (∀ s', I (k + 1) s' → ∃ r, nx s' = some r ∧ Q r) → ∃ r, f k s nx fin = some r ∧ Q r) (done : ∀ s, I n s → ∃ r, fin s = some r ∧ Q r) :
    ∀ m k s, k + m = n → I k s → ∃ r, cntK f m k s fin = some r ∧ Q r := by
  intro m
  induction m with
  | zero => intro k s hk hI; obtain rfl : k = n := by omega
            exact done s hI
  | succ m ih => intro k s hk hI; exact step k s _ (by omega) hI (fun s' h' => ih (k + 1) s' (by omega) h')
theorem cnt_is {σ ρ : Type} {f : Nat → σ → (σ → Option ρ) → (σ → Option ρ) → Option ρ} {fin : σ → Option ρ} {n : Nat} (r : ρ) (I : Nat → σ → Prop)
    (step : ∀ k s nx, k < n → I k s → (∀ s', I (k + 1) s' → nx s' = some r) → f k s nx fin = some r) (done : ∀ s, I n s → fin s = some r) (s : σ) (h0 : I 0 s) : cntK f n 0 s fin = some r := by
  obtain ⟨r', h, rfl⟩ := cnt_ex (Q := fun x => x = r) I (fun k s nx hk hI hn => ⟨r, step k s nx hk hI (fun s' h' => by obtain ⟨_, h, rfl⟩ := hn s' h'; exact h), rfl⟩) (fun s h => ⟨r, done s h, rfl⟩) n 0 s (by omega) h0
  exact h
theorem at_lt {α : Type} {l : List α} {k : Nat} (h : k < l.length) : ∃ x, l[k]? = some x ∧ idx l (k : Int) = some x := ⟨l[k], List.getElem?_eq_getElem h, by rw [idx_nat, List.getElem?_eq_getElem h]⟩
theorem idx_pred {α : Type} {l : List α} {k : Nat} {x : α} (hk : 0 < k) (hb : k ≤ 9223372036854775807) (h : l[k - 1]? = some x) : idx l (IntKind.i64.wrap ((k : Int) - 1)) = some x := by
  rw [IntWalk.i64_in _ (by omega), show ((k : Int) - 1) = ((k - 1 : Nat) : Int) by omega, idx_nat, h]
theorem take_next {α : Type} {l : List α} {k : Nat} {x : α} (h : l[k]? = some x) : l.take (k + 1) = l.take k ++ [x] := by
  obtain ⟨hk, e⟩ := List.getElem?_eq_some_iff.1 h
  rw [List.take_succ_eq_append_getElem hk, e]
theorem all_next {α : Type} {p : α → Bool} {l : List α} {k : Nat} {x : α} (h : l[k]? = some x) : (l.take (k + 1)).all p = ((l.take k).all p && p x) := by
  rw [take_next h]; simp
theorem not_all {α : Type} {p : α → Bool} {l : List α} {k : Nat} {x : α} (h : l[k]? = some x) (hp : p x = false) : l.all p = false := by
  rw [Bool.eq_false_iff]
  intro ha
  have := List.all_eq_true.1 ha x (List.mem_of_getElem? h)
  rw [hp] at this; exact absurd this (by simp)
theorem wrap_in {x : Int} (h1 : -9223372036854775808 ≤ x) (h2 : x ≤ 9223372036854775807) : IntKind.i64.wrap x = x := IntWalk.i64_in _ (by omega)

/-- valid, and above the one ahead of it -/
def upAt {α : Type} (ok : α → Bool) (id : α → Int) (l : List α) (k : Nat) : Bool :=
  match l[k]? with
  | none => true
  | some s => ok s && (decide (k = 0) || (match l[k-1]? with | none => true | some r => decide (id r < id s)))
def upTo {α : Type} (ok : α → Bool) (id : α → Int) (l : List α) (k : Nat) : Bool := (List.range k).all (upAt ok id l)
theorem upTo_zero {α : Type} (ok : α → Bool) (id : α → Int) (l : List α) : upTo ok id l 0 = true := rfl
theorem upTo_succ {α : Type} (ok : α → Bool) (id : α → Int) (l : List α) (k : Nat) : upTo ok id l (k + 1) = (upTo ok id l k && upAt ok id l k) := by simp [upTo, List.range_succ, List.all_append]
theorem upTo_not {α : Type} {ok : α → Bool} {id : α → Int} {l : List α} {k n : Nat} (h : upAt ok id l k = false) (hk : k < n) : upTo ok id l n = false := by
  unfold upTo
  rw [Bool.eq_false_iff]
  intro ha
  have := List.all_eq_true.1 ha k (List.mem_range.2 hk)
  rw [h] at this; exact absurd this (by simp)
/-- a list of at most m valid records with rising ids -/
def upL {α : Type} (m : Nat) (ok : α → Bool) (id : α → Int) (l : List α) : Bool := decide (l.length ≤ m) && upTo ok id l l.length
theorem upAt_bad {α : Type} {ok : α → Bool} {id : α → Int} {l : List α} {k : Nat} {s : α} (hs : l[k]? = some s) (h : ok s = false) : upAt ok id l k = false := by unfold upAt; rw [hs]; simp [h]
theorem upAt_first {α : Type} {ok : α → Bool} {id : α → Int} {l : List α} {s : α} (hs : l[0]? = some s) (h : ok s = true) : upAt ok id l 0 = true := by unfold upAt; rw [hs]; simp [h]
theorem upAt_next {α : Type} {ok : α → Bool} {id : α → Int} {l : List α} {k : Nat} {s r : α} (hs : l[k]? = some s) (hr : l[k-1]? = some r) (hk : 0 < k) (h : ok s = true) : upAt ok id l k = decide (id r < id s) := by
  unfold upAt; rw [hs]; simp only [hr, h, Bool.true_and, decide_eq_false (show ¬ k = 0 by omega), Bool.false_or]
theorem upL_len {α : Type} {m : Nat} {ok : α → Bool} {id : α → Int} {l : List α} (h : upL m ok id l = true) : l.length ≤ m := by unfold upL at h; simp only [Bool.and_eq_true, decide_eq_true_eq] at h; exact h.1
theorem upL_ok {α : Type} {m : Nat} {ok : α → Bool} {id : α → Int} {l : List α} (h : upL m ok id l = true) {k : Nat} {s : α} (hs : l[k]? = some s) : ok s = true := by
  unfold upL at h
  simp only [Bool.and_eq_true, decide_eq_true_eq] at h
  have := List.all_eq_true.1 h.2 k (List.mem_range.2 (List.getElem?_eq_some_iff.1 hs).1)
  unfold upAt at this
  rw [hs] at this
  simp only [Bool.and_eq_true] at this
  exact this.1
theorem upL_mem {α : Type} {m : Nat} {ok : α → Bool} {id : α → Int} {l : List α} (h : upL m ok id l = true) {s : α} (hs : s ∈ l) : ok s = true := by
  obtain ⟨k, hk⟩ := List.getElem?_of_mem hs
  exact upL_ok h hk
/-- a loop that goes through a list of records and stops with 'false' at the first that is bad -/
theorem up_loop {α : Type} {ok : α → Bool} {id : α → Int} {l : List α} {R : Type} {no : R} {f : Nat → Unit → (Unit → Option R) → (Unit → Option R) → Option R} {fin : Unit → Option R}
    (step : ∀ k nx s, l[k]? = some s → (ok s = false → f k () nx fin = some no) ∧ (ok s = true → (k = 0 → f k () nx fin = nx ()) ∧ (0 < k → ∀ r, l[k-1]? = some r → (id r < id s → f k () nx fin = nx ()) ∧ (id s ≤ id r → f k () nx fin = some no)))) :
    cntK f l.length 0 () fin = if upTo ok id l l.length then fin () else some no := by
  have key : ∀ m k, k + m = l.length → upTo ok id l k = true → cntK f m k () fin = if upTo ok id l l.length then fin () else some no := by
    intro m
    induction m with
    | zero => intro k hk hu; obtain rfl : k = l.length := by omega
              rw [hu]; rfl
    | succ m ih =>
      intro k hk hu
      have hlt : k < l.length := by omega
      obtain ⟨s, hs, _⟩ := at_lt hlt
      obtain ⟨h1, h2⟩ := step k (fun s' => cntK f m (k + 1) s' fin) s hs
      show f k () _ fin = _
      cases hok : ok s with
      | false => rw [h1 hok, upTo_not (upAt_bad hs hok) hlt]; rfl
      | true =>
        obtain ⟨h3, h4⟩ := h2 hok
        by_cases hk0 : k = 0
        · rw [h3 hk0]
          subst hk0
          exact ih 1 (by omega) (by rw [upTo_succ, hu, upAt_first hs hok]; rfl)
        · obtain ⟨r, hr, _⟩ := at_lt (l := l) (k := k - 1) (by omega)
          obtain ⟨h5, h6⟩ := h4 (by omega) r hr
          by_cases hlt2 : id r < id s
          · rw [h5 hlt2]
            exact ih (k + 1) (by omega) (by rw [upTo_succ, hu, upAt_next hs hr (by omega) hok]; simpa using hlt2)
          · rw [h6 (by omega), upTo_not (by rw [upAt_next hs hr (by omega) hok]; simpa using hlt2) hlt]; rfl
  exact key l.length 0 (by omega) (upTo_zero ok id l)
end Go.Proofs.Ytpaakpbbahbhcaa.QLoop

/- Loops that test each place, and loops without a count. No condition. -/
namespace Go.Proofs.Ytpaakpbbahbhcaa.QAll
set_option linter.unusedVariables false
set_option linter.unusedSimpArgs false
open Go.RowKit
open Go.Proofs.Ytpaakpbbahbhcaa.GoP Go.Proofs.Ytpaakpbbahbhcaa.QBase Go.Proofs.Ytpaakpbbahbhcaa.QLoop

/-- each number below n is good -/
def allN (n : Nat) (p : Nat → Bool) : Bool := (List.range n).all p
end Go.Proofs.Ytpaakpbbahbhcaa.QAll

/- Rising rows: what a rising row gives; loops that sum; loops from one on. No condition. -/
namespace Go.Proofs.Ytpaakpbbahbhcaa.QUp
set_option linter.unusedVariables false
set_option linter.unusedSimpArgs false
open Go.RowKit
open Go.Proofs.Ytpaakpbbahbhcaa.GoP Go.Proofs.Ytpaakpbbahbhcaa.QBase Go.Proofs.Ytpaakpbbahbhcaa.QLoop Go.Proofs.Ytpaakpbbahbhcaa.QAll

end Go.Proofs.Ytpaakpbbahbhcaa.QUp

/- Chapter 13: censuses: the plain functions of the program and of the reference agree, and the laws answer true. (Q1Rise) No condition but those of each theorem. -/
namespace Go.Proofs.Ytpaakpbbahbhcaa.Q1Rise
set_option linter.unusedVariables false
set_option linter.unusedSimpArgs false
open Go.RowKit
open Go.Proofs.Ytpaakpbbahbhcaa.GoP Go.Proofs.Ytpaakpbbahbhcaa.PlainStamp Go.Proofs.Ytpaakpbbahbhcaa.QBase Go.Proofs.Ytpaakpbbahbhcaa.QUp Go.Proofs.Ytpaakpbbahbhcaa.QLoop

def rise (lo hi : Int) (l : List Int) : Bool := upTo (fun n => inB n lo hi) (fun n => n) l l.length
theorem rising_eq (l : List Int) (lo hi : Int) (hl : l.length ≤ 9223372036854775807) : GsL1Rising.P l lo hi = some (rise lo hi l) := by
  simp only [GsL1Rising.P]
  rw [up_loop (ok := fun n => inB n lo hi) (id := fun n => n) (no := false)]
  · unfold rise; cases upTo (fun n => inB n lo hi) (fun n => n) l l.length <;> simp [GsL1Rising.e0]
  · intro k nx s hs
    have hi' : idx l (k : Int) = some s := by rw [idx_nat, hs]
    have hk : k < l.length := (List.getElem?_eq_some_iff.1 hs).1
    simp only [GsL1Rising.l0, hi', Option.bind_some, l1In_eq, letK, joinK, appK, iteK_if]
    refine ⟨fun h => by simp [h], fun h => ⟨fun h0 => by subst h0; simp [h], fun h0 r hr => ?_⟩⟩
    rw [idx_pred h0 (by omega) hr]
    have hk0 : (0 : Int) < (k : Int) := by omega
    have hk1 : ¬ k = 0 := by omega
    exact ⟨fun hlt => by (have hc : ¬ s ≤ r := by omega); simp [h, hk0, hk1, hc], fun hge => by simp [h, hk0, hk1, hge]⟩
end Go.Proofs.Ytpaakpbbahbhcaa.Q1Rise

/- Words: the tests of a word of the program and of the reference as plain functions. (QWord) No condition but those of each theorem. -/
namespace Go.Proofs.Ytpaakpbbahbhcaa.QWord
set_option linter.unusedVariables false
set_option linter.unusedSimpArgs false
open Go.RowKit
open Go.Proofs.Ytpaakpbbahbhcaa.GoP Go.Proofs.Ytpaakpbbahbhcaa.PlainStamp Go.Proofs.Ytpaakpbbahbhcaa.QBase Go.Proofs.Ytpaakpbbahbhcaa.QLoop

def small (b : UInt8) : Bool := decide (97 ≤ b.toNat ∧ b.toNat ≤ 122)
def wordB (s : ByteArray) : Bool := inB (s.size : Int) 1 10 && s.toList.all small
theorem size_list (s : ByteArray) : s.toList.length = s.size := by rw [Lib.toList_data]; rfl
theorem isLetter_eq (b : UInt8) : GiIsLetter.P (b.toNat : Int) = some (small b) := by
  simp only [GiIsLetter.P, letK, joinK, appK, iteK_if]
  unfold small
  by_cases h1 : 97 ≤ b.toNat
  · by_cases h2 : b.toNat ≤ 122
    · simp [h1, h2, show (97 : Int) ≤ b.toNat by omega, show (b.toNat : Int) ≤ 122 by omega]
    · simp [h1, h2, show (97 : Int) ≤ b.toNat by omega, show ¬ (b.toNat : Int) ≤ 122 by omega]
  · simp [h1, show ¬ (97 : Int) ≤ b.toNat by omega]
theorem isWord_eq (s : ByteArray) : GiIsWord.P s = some (wordB s) := by
  cases hb : inB (s.size : Int) 1 10 with
  | false => simp only [GiIsWord.P, within_eq, hb, Option.bind_some, letK, iteK_if, wordB]; rfl
  | true =>
    have h := inB_of hb
    simp only [GiIsWord.P, within_eq, hb, Option.bind_some, letK, iteK_if]
    rw [if_neg (by simp), guardK_pos (by omega)]
    refine cnt_is _ (fun k _ => (s.toList.take k).all small = true) ?_ ?_ () rfl
    · intro k u nx hk hI hn
      obtain ⟨y, hy, hi⟩ := at_lt (l := s.toList) (k := k) (by rw [size_list]; exact hk)
      simp only [GiIsWord.l0, hi, Option.bind_some, letK, joinK, appK, iteK_if, isLetter_eq]
      cases hs : small y with
      | false =>
        have : wordB s = false := by unfold wordB; rw [not_all hy hs, Bool.and_false]
        simp [this]
      | true => exact hn () (by rw [all_next hy, hI, hs]; rfl)
    · intro u hI
      rw [List.take_of_length_le (by rw [size_list]; exact Nat.le_refl _)] at hI
      simp [GiIsWord.e0, wordB, hb, hI]
theorem l2Word_eq (s : ByteArray) (hz : s.size ≤ 9223372036854775807) : GsL2Word.P s = some (wordB s) := by
  simp only [GsL2Word.P]
  rw [guardK_pos hz]
  refine cnt_is _ (fun k _ => (s.toList.take k).all small = true) ?_ ?_ () rfl
  · intro k u nx hk hI hn
    obtain ⟨y, hy, hi⟩ := at_lt (l := s.toList) (k := k) (by rw [size_list]; exact hk)
    simp only [GsL2Word.l0, hi, Option.bind_some, letK, joinK, appK, iteK_if]
    by_cases h1 : (y.toNat : Int) < 97
    · have : wordB s = false := by unfold wordB; rw [not_all hy (by unfold small; simp; omega), Bool.and_false]
      simp [h1, this]
    · by_cases h2 : (122 : Int) < (y.toNat : Int)
      · have : wordB s = false := by unfold wordB; rw [not_all hy (by unfold small; simp; omega), Bool.and_false]
        simp [h1, h2, this]
      · simp [h1, h2]
        exact hn () (by rw [all_next hy, hI]; unfold small; simp; omega)
  · intro u hI
    rw [List.take_of_length_le (by rw [size_list]; exact Nat.le_refl _)] at hI
    simp [GsL2Word.e0, wordB, l1In_eq, hI]
end Go.Proofs.Ytpaakpbbahbhcaa.QWord

