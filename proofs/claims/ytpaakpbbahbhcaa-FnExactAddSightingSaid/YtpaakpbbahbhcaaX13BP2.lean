/- Texts on which the proofs of several laws stand, one behind the other (2 of 6). No condition of their own. -/
import Derived.Test.YtpaakpbbahbhcaaChecked
import Derived.Test.YtpaakpbbahbhcaaX13BP1
import Derived.WalkKit
import Derived.WalkSpells
import Derived.WalkLawsBesides
import Derived.BigQuiet
import Derived.OwnWalk
import Derived.Deep.LoopGhost
import Derived.Deep.QuietTactic
import Derived.IntWalk
import Derived.Lib.QuietBelow
/- loop.example/g01062/laws.szIntS as a plain function, and the contract of the program's: where the plain one has an answer, the program has it. Conditions: slices read as lists. -/
namespace Go.Proofs.Ytpaakpbbahbhcaa.GlSzIntS
set_option linter.unusedVariables false
set_option linter.unusedSimpArgs false
open Go.RowKit
open Go.Proofs.Ytpaakpbbahbhcaa.Rowed Go.Proofs.Ytpaakpbbahbhcaa.Turn Go.Proofs.Ytpaakpbbahbhcaa.Aid Go.Proofs.Ytpaakpbbahbhcaa.GoP Go.Proofs.Ytpaakpbbahbhcaa.GoM

def P (a : (List Int)) (left : Int) : Option (Int) :=
  letK (IntKind.i64.wrap (left - (a.length : Int))) fun (t_4 : Int) =>
  letK (decide (t_4 < 0)) fun (t_7 : Bool) =>
  iteK t_7
  (some (-1))
  (some t_4)

set_option maxRecDepth 100000 in
set_option maxHeartbeats 2000000 in
theorem C (a : (List Int)) (left : Int) (A0 : Option Addr) (c0 : Nat)  (w : World) (M0 : Hid (Cells w 1 A0 a.length (Go.Proofs.Ytpaakpbbahbhcaa.HelpInt.iv a))) (N0 : Hid (a.length ≤ 9223372036854775807))  {r : Int} (H : Hid (P a left = some r)) :
    Calls Try.prog 95 #[.slice A0 a.length c0, .int .i64 left] w (Gives (.int .i64 r) w) := by
  have HB := Lib.hid (Below.refl w.heap.size w)
  unfold P at H
  have N0o := N0.out
  go_enter Try.func95, Try.ntmps95
  replace H := let_hid H
  obtain ⟨t_4, ht_4, H⟩ := H
  replace H := let_hid H
  obtain ⟨t_7, ht_7, H⟩ := H
  cases t_7 with
  | false =>
    replace H := ite_f H
    obtain rfl := ret_hid H
    go_wp2_with fail
    go_ret
    exact ⟨rfl, HB.out⟩
  | true =>
    replace H := ite_t H
    obtain rfl := ret_hid H
    go_wp2_with fail
    go_ret
    exact ⟨rfl, HB.out⟩

set_option maxRecDepth 100000 in
set_option maxHeartbeats 2000000 in
theorem C0 (a : (List Int)) (left : Int) (A0 : Option Addr) (c0 : Nat)  (w : World) (M0 : Hid (Cells w 1 A0 a.length (Go.Proofs.Ytpaakpbbahbhcaa.HelpInt.iv a))) (N0 : Hid (a.length ≤ 9223372036854775807))  {r : Int} (H : Hid (P a left = some r)) :
    Calls Try.prog 95 #[.slice A0 a.length c0, .int .i64 left] w (fun e w'' => e = .returned (.int .i64 r) ∧ w'' = w) := by
  have HB := Lib.hid (Below.refl w.heap.size w)
  unfold P at H
  have N0o := N0.out
  go_enter Try.func95, Try.ntmps95
  replace H := let_hid H
  obtain ⟨t_4, ht_4, H⟩ := H
  replace H := let_hid H
  obtain ⟨t_7, ht_7, H⟩ := H
  cases t_7 with
  | false =>
    replace H := ite_f H
    obtain rfl := ret_hid H
    go_wp2_with fail
    go_ret
    exact ⟨rfl, rfl⟩
  | true =>
    replace H := ite_t H
    obtain rfl := ret_hid H
    go_wp2_with fail
    go_ret
    exact ⟨rfl, rfl⟩
end Go.Proofs.Ytpaakpbbahbhcaa.GlSzIntS

/- loop.example/g01062/laws.szSighting as a plain function, and the contract of the program's: where the plain one has an answer, the program has it. Conditions: slices read as lists. -/
namespace Go.Proofs.Ytpaakpbbahbhcaa.GlSzSighting
set_option linter.unusedVariables false
set_option linter.unusedSimpArgs false
open Go.RowKit
open Go.Proofs.Ytpaakpbbahbhcaa.Rowed Go.Proofs.Ytpaakpbbahbhcaa.Turn Go.Proofs.Ytpaakpbbahbhcaa.Aid Go.Proofs.Ytpaakpbbahbhcaa.GoP Go.Proofs.Ytpaakpbbahbhcaa.GoM

def P (a_id : Int) (a_year : Int) (a_town : ByteArray) (a_traits : (List Int)) (left : Int) : Option (Int) :=
  letK (IntKind.i64.wrap (left - (a_town.size : Int))) fun (t_6 : Int) =>
  letK (decide (t_6 < 0)) fun (t_9 : Bool) =>
  iteK t_9
  (some (-1))
  (Option.bind (Go.Proofs.Ytpaakpbbahbhcaa.GlSzIntS.P a_traits t_6) fun (t_14 : Int) =>
  letK (decide (t_14 < 0)) fun (t_17 : Bool) =>
  iteK t_17
  (some (-1))
  (some t_14))

set_option maxRecDepth 100000 in
set_option maxHeartbeats 2000000 in
theorem C (a_id : Int) (a_year : Int) (a_town : ByteArray) (a_traits : (List Int)) (left : Int) (A0_3 : Option Addr) (c0_3 : Nat)  (w : World) (M0_3 : Hid (Cells w 1 A0_3 a_traits.length (Go.Proofs.Ytpaakpbbahbhcaa.HelpInt.iv a_traits))) (N0_3 : Hid (a_traits.length ≤ 9223372036854775807))  {r : Int} (H : Hid (P a_id a_year a_town a_traits left = some r)) :
    Calls Try.prog 69 #[.agg #[.int .i64 a_id, .int .i64 a_year, .string a_town, .slice A0_3 a_traits.length c0_3], .int .i64 left] w (Gives (.int .i64 r) w) := by
  have HB := Lib.hid (Below.refl w.heap.size w)
  unfold P at H
  have N0_3o := N0_3.out
  go_enter Try.func69, Try.ntmps69
  obtain ⟨w_a_0, hw_a_0⟩ : ∃ x, w.alloc (.cells #[.int .i64 a_id, .int .i64 a_year, .string a_town, .slice A0_3 a_traits.length c0_3] 81) = x := ⟨_, rfl⟩
  have bw_a_0 : Below w.heap.size w w_a_0 := by rw [← hw_a_0]; exact (Below.refl _ _).alloc (Nat.le_refl _) _
  have HBw_a_0 := Lib.hid (Below.step HB.out bw_a_0)
  clear bw_a_0
  have ka_0_0 : w_a_0.cell? ⟨w.heap.size, 0, none⟩ = some (.int .i64 a_id) := by rw [← hw_a_0]; exact box_new _ _ _ 0 _ rfl
  have ka_0_1 : w_a_0.cell? ⟨w.heap.size, 1, none⟩ = some (.int .i64 a_year) := by rw [← hw_a_0]; exact box_new _ _ _ 1 _ rfl
  have ka_0_2 : w_a_0.cell? ⟨w.heap.size, 2, none⟩ = some (.string a_town) := by rw [← hw_a_0]; exact box_new _ _ _ 2 _ rfl
  have ka_0_3 : w_a_0.cell? ⟨w.heap.size, 3, none⟩ = some (.slice A0_3 a_traits.length c0_3) := by rw [← hw_a_0]; exact box_new _ _ _ 3 _ rfl
  replace H := let_hid H
  obtain ⟨t_6, ht_6, H⟩ := H
  replace H := let_hid H
  obtain ⟨t_9, ht_9, H⟩ := H
  cases t_9 with
  | false =>
    replace H := ite_f H
    replace H := bind_hid H
    obtain ⟨t_14, qt_14, H⟩ := H
    go_wp2_with fail
    go_at_call 95
    refine (Go.Proofs.Ytpaakpbbahbhcaa.GlSzIntS.C (a_traits) (t_6) A0_3 c0_3 _   (Lib.hid (Cells.below M0_3.out HBw_a_0.out)) N0_3 qt_14).mono ?_
    rintro e_t_14 wt_14 ⟨rfl, bt_14⟩
    have HBwt_14 := Lib.hid (Below.step HBw_a_0.out bt_14)
    replace ka_0_0 := cell_below bt_14 ka_0_0
    replace ka_0_1 := cell_below bt_14 ka_0_1
    replace ka_0_2 := cell_below bt_14 ka_0_2
    replace ka_0_3 := cell_below bt_14 ka_0_3
    clear bt_14
    replace H := let_hid H
    obtain ⟨t_17, ht_17, H⟩ := H
    cases t_17 with
    | false =>
      replace H := ite_f H
      obtain rfl := ret_hid H
      go_wp2_with fail
      go_ret
      exact ⟨rfl, HBwt_14.out⟩
    | true =>
      replace H := ite_t H
      obtain rfl := ret_hid H
      go_wp2_with fail
      go_ret
      exact ⟨rfl, HBwt_14.out⟩
  | true =>
    replace H := ite_t H
    obtain rfl := ret_hid H
    go_wp2_with fail
    go_ret
    exact ⟨rfl, HBw_a_0.out⟩
end Go.Proofs.Ytpaakpbbahbhcaa.GlSzSighting

/- loop.example/g01062/laws.szSightingS as a plain function, and the contract of the program's: where the plain one has an answer, the program has it. Conditions: slices read as lists. -/
namespace Go.Proofs.Ytpaakpbbahbhcaa.GlSzSightingS
set_option linter.unusedVariables false
set_option linter.unusedSimpArgs false
open Go.RowKit
open Go.Proofs.Ytpaakpbbahbhcaa.Rowed Go.Proofs.Ytpaakpbbahbhcaa.Turn Go.Proofs.Ytpaakpbbahbhcaa.Aid Go.Proofs.Ytpaakpbbahbhcaa.GoP Go.Proofs.Ytpaakpbbahbhcaa.GoM

def l0 (a : (List Go.Proofs.Ytpaakpbbahbhcaa.PSighting.Sighting)) (k0 : Nat) (s : Int) (nx0 bk0 : Int → Option (Int)) : Option (Int) :=
  letK s fun left_1l0 =>
  Option.bind (idx a (k0 : Int)) fun (yt_16 : Go.Proofs.Ytpaakpbbahbhcaa.PSighting.Sighting) =>
  unSighting yt_16 fun (t_16_id : Int) (t_16_year : Int) (t_16_town : ByteArray) (t_16_traits : (List Int)) =>
  Option.bind (Go.Proofs.Ytpaakpbbahbhcaa.GlSzSighting.P t_16_id t_16_year t_16_town t_16_traits left_1l0) fun (t_19 : Int) =>
  letK (decide (t_19 < 0)) fun (t_22 : Bool) =>
  iteK t_22
  (some (-1))
  (appK nx0 (t_19))

def e0  (s : Int) : Option (Int) :=
  letK s fun left_1l0 =>
  some left_1l0

def P (a : (List Go.Proofs.Ytpaakpbbahbhcaa.PSighting.Sighting)) (left : Int) : Option (Int) :=
  letK (IntKind.i64.wrap (left - (a.length : Int))) fun (t_4 : Int) =>
  letK (decide (t_4 < 0)) fun (t_7 : Bool) =>
  iteK t_7
  (some (-1))
  (cntK (l0 a) (a.length) 0 (t_4) (e0 ))

set_option maxRecDepth 100000 in
set_option maxHeartbeats 2000000 in
theorem C (a : (List Go.Proofs.Ytpaakpbbahbhcaa.PSighting.Sighting)) (left : Int) (A0 : Option Addr) (c0 : Nat)  (w : World) (M0 : Hid (Go.Proofs.Ytpaakpbbahbhcaa.GoV.ReadNest w Go.Proofs.Ytpaakpbbahbhcaa.GoVSighting.lay A0 a)) (N0 : Hid (a.length ≤ 9223372036854775807))  {r : Int} (H : Hid (P a left = some r)) :
    Calls Try.prog 30 #[.slice A0 a.length c0, .int .i64 left] w (Gives (.int .i64 r) w) := by
  have HB := Lib.hid (Below.refl w.heap.size w)
  unfold P at H
  have N0o := N0.out
  go_enter Try.func30, Try.ntmps30
  replace H := let_hid H
  obtain ⟨t_4, ht_4, H⟩ := H
  replace H := let_hid H
  obtain ⟨t_7, ht_7, H⟩ := H
  cases t_7 with
  | false =>
    replace H := ite_f H
    go_wp2_with fail
    go_loopg [5, 1] (a.length) (fun m_ v5_ v1_ wr => ∃ (k0 : Nat) (left_1l0 : Int), k0 + m_ = a.length ∧ v5_ = .int .i64 (k0 : Int) ∧ v1_ = .int .i64 left_1l0 ∧ Hid (cntK (l0 a) m_ k0 (left_1l0) (e0 ) = some r) ∧ Hid (Below w.heap.size w wr))
    case atStart => exact ⟨0, _, by omega, rfl, rfl, H, HB⟩
    case round =>
      obtain ⟨k0, left_1l0, hkm0, rfl, rfl, H, HBwr0⟩ := hrel
      rename World => wr0
      cases gk with
      | zero =>
        obtain rfl : k0 = a.length := by omega
        have hc0 : decide (((a.length : Nat) : Int) < ((a.length : Nat) : Int)) = false := by simp
        replace H := cnt_zero H
        unfold e0 at H
        replace H := let_hid H
        obtain ⟨_, rfl, H⟩ := H
        obtain rfl := ret_hid H
        go_wp2_with fail
        go_ret
        exact ⟨rfl, HBwr0.out⟩
      | succ m0 =>
        have hlt0 : k0 < a.length := by omega
        have hc0 : decide ((k0 : Int) < ((a.length : Nat) : Int)) = true := by simp; omega
        replace H := cnt_succ H
        unfold l0 at H
        replace H := let_hid H
        obtain ⟨_, rfl, H⟩ := H
        replace H := idx_hid H
        obtain ⟨nt_16, yt_16, et_16, lt_16, gt_16, H⟩ := H
        obtain rfl : k0 = nt_16 := by omega
        clear et_16
        obtain ⟨t_16_id, t_16_year, t_16_town, t_16_traits⟩ := yt_16
        replace H := unSighting_hid H
        obtain ⟨bbt_16, oot_16, zt_16, Art_16, crt_16, eAt_16, zzt_16, hKt_16, hrt_16, hqt_16, hnt_16⟩ := Go.Proofs.Ytpaakpbbahbhcaa.GoV.nest_at M0.out (k := k0) lt_16
        obtain rfl := Option.some.inj (gt_16.out.symm.trans zzt_16)
        clear zzt_16
        subst eAt_16
        have hct_16_0 : w.cell? ⟨bbt_16, oot_16 + k0 * 4, none⟩ = some (.int .i64 t_16_id) := hKt_16 0 _ rfl
        have hct_16_1 : w.cell? ⟨bbt_16, oot_16 + k0 * 4 + 1, none⟩ = some (.int .i64 t_16_year) := hKt_16 1 _ rfl
        have hct_16_2 : w.cell? ⟨bbt_16, oot_16 + k0 * 4 + 2, none⟩ = some (.string t_16_town) := hKt_16 2 _ rfl
        have hct_16_3 : w.cell? ⟨bbt_16, oot_16 + k0 * 4 + 3, none⟩ = some (.slice Art_16 t_16_traits.length crt_16) := hKt_16 3 _ rfl
        clear hKt_16
        have ltt_16 := cell_lt hct_16_0
        replace hct_16_0 := cell_below HBwr0.out hct_16_0
        replace hct_16_1 := cell_below HBwr0.out hct_16_1
        replace hct_16_2 := cell_below HBwr0.out hct_16_2
        replace hct_16_3 := cell_below HBwr0.out hct_16_3
        have Mrt_16 := Lib.hid hrt_16
        have Qrt_16 := Lib.hid hqt_16
        have Nrt_16 := Lib.hid hnt_16
        clear hrt_16 hqt_16 hnt_16
        have b0t_16 : (0 : Int) ≤ (k0 : Int) := by omega
        have b1t_16 : (k0 : Int) < ((a.length : Nat) : Int) := by omega
        have b2t_16 : ((k0 : Int)).toNat = k0 := by omega
        replace H := bind_hid H
        obtain ⟨t_19, qt_19, H⟩ := H
        go_wp2_with fail
        go_at_call 69
        refine (Go.Proofs.Ytpaakpbbahbhcaa.GlSzSighting.C (t_16_id) (t_16_year) (t_16_town) (t_16_traits) (left_1l0) Art_16 crt_16 _   (Lib.hid (Cells.below Mrt_16.out HBwr0.out)) Nrt_16 qt_19).mono ?_
        rintro e_t_19 wt_19 ⟨rfl, bt_19⟩
        have HBwt_19 := Lib.hid (Below.step HBwr0.out bt_19)
        replace hct_16_0 := cell_below bt_19 hct_16_0
        replace hct_16_1 := cell_below bt_19 hct_16_1
        replace hct_16_2 := cell_below bt_19 hct_16_2
        replace hct_16_3 := cell_below bt_19 hct_16_3
        clear bt_19
        replace H := let_hid H
        obtain ⟨t_22, ht_22, H⟩ := H
        cases t_22 with
        | false =>
          replace H := ite_f H
          replace H := app_hid H
          go_wp2_with fail
          go_roundg m0
          case measure => omega
          case rel => exact ⟨k0 + 1, _, by omega, by go_num, rfl, H, HBwt_19⟩
        | true =>
          replace H := ite_t H
          obtain rfl := ret_hid H
          go_wp2_with fail
          go_ret
          exact ⟨rfl, HBwt_19.out⟩
  | true =>
    replace H := ite_t H
    obtain rfl := ret_hid H
    go_wp2_with fail
    go_ret
    exact ⟨rfl, HB.out⟩
end Go.Proofs.Ytpaakpbbahbhcaa.GlSzSightingS

/- loop.example/g01062/laws.toIntS as a plain function, and the contract of the program's: where the plain one has an answer, the program has it. Conditions: slices read as lists. -/
namespace Go.Proofs.Ytpaakpbbahbhcaa.GlToIntS
set_option linter.unusedVariables false
set_option linter.unusedSimpArgs false
open Go.RowKit
open Go.Proofs.Ytpaakpbbahbhcaa.Rowed Go.Proofs.Ytpaakpbbahbhcaa.Turn Go.Proofs.Ytpaakpbbahbhcaa.Aid Go.Proofs.Ytpaakpbbahbhcaa.GoP Go.Proofs.Ytpaakpbbahbhcaa.GoM

def l0 (a : (List Int)) (k0 : Nat) (s : (List Int)) (nx0 bk0 : (List Int) → Option ((List Int))) : Option ((List Int)) :=
  letK s fun out_3l0 =>
  Option.bind (idx a (k0 : Int)) fun (yt_14 : Int) =>
  Option.bind (idx out_3l0 (k0 : Int)) fun (yt_16 : Int) =>
  letK (out_3l0.set k0 yt_14) fun (l17_17 : (List Int)) =>
  appK nx0 (l17_17)

def e0  (s : (List Int)) : Option ((List Int)) :=
  letK s fun out_3l0 =>
  some out_3l0

def P (a : (List Int)) : Option ((List Int)) :=
  guardK (0 ≤ (a.length : Int) ∧ (a.length : Int) ≤ 1099511627776) <|
  letK (List.replicate a.length 0) fun (t_3 : (List Int)) =>
  cntK (l0 a) (a.length) 0 (t_3) (e0 )

set_option maxRecDepth 100000 in
set_option maxHeartbeats 2000000 in
theorem C (a : (List Int)) (A0 : Option Addr) (c0 : Nat)  (w : World) (M0 : Hid (Cells w 1 A0 a.length (Go.Proofs.Ytpaakpbbahbhcaa.HelpInt.iv a))) (N0 : Hid (a.length ≤ 9223372036854775807))  {r : (List Int)} (H : Hid (P a = some r)) :
    Calls Try.prog 49 #[.slice A0 a.length c0] w (fun e w' => ∃ A_r c_r, e = .returned (.slice A_r r.length c_r) ∧ w'.ownsRow w.heap.size 3 1 (.slice A_r r.length c_r) r.length (Go.Proofs.Ytpaakpbbahbhcaa.HelpInt.iv r) ∧ Below w.heap.size w w') := by
  have HB := Lib.hid (Below.refl w.heap.size w)
  unfold P at H
  have N0o := N0.out
  obtain ⟨i0_3, hi_3, hz0_3, hz1_3, hz2_3⟩ := Aid.info_parts (P := Try.prog) (T := 3) (z := .int .i64 0) (s := 1) (b := 8) (by kernel_rfl)
  go_enter Try.func49, Try.ntmps49
  replace H := guard_hid H
  obtain ⟨hnt_3, H⟩ := H
  replace H := let_hid H
  obtain ⟨t_3, ht_3, H⟩ := H
  have hst_3 := HB.out.size
  have hlt_3 : t_3.length = a.length := by rw [← ht_3]; simp
  have hht_3 := Lib.hid ht_3
  clear ht_3
  go_wp2_with (at_make; refine wpList_make_full _ rfl _ _ 32 rfl w.heap.size 3 i0_3 (.int .i64 0) 1 Try.underlying32 hi_3 hz0_3 hz1_3 .i64 .i64 _ _ a.length rfl rfl (by omega) (by omega) (by rw [hz2_3]; omega) (by unfold maxLen; omega) hst_3 ?_; intro wt_3 ot_3 gt_3; have Qt_3 := Lib.hid ot_3; have Gt_3 := Lib.hid gt_3; clear ot_3 gt_3; refine stop_in ?_)
  refine stop_out ?_
  have hv_ : (Value.slice (some ⟨w.heap.size, 0, none⟩) a.length a.length : Value) = Value.slice (some ⟨w.heap.size, 0, none⟩) t_3.length a.length := by rw [hlt_3]
  rw [hv_]
  clear hv_
  have Et_3 : (Go.Proofs.Ytpaakpbbahbhcaa.HelpInt.iv t_3) = (madeCells (.int .i64 0 : Value).cells (a.length * 1)).toList := by
    rw [made_flat (fun x => [.int .i64 x]) 0 _ 1 _ rfl rfl (by decide), ← hht_3.out]
    exact map_flat _ _
  have Pt_3 : Hid (wt_3.ownsRow w.heap.size 3 1 (.slice (some ⟨w.heap.size, 0, none⟩) a.length a.length) a.length (Go.Proofs.Ytpaakpbbahbhcaa.HelpInt.iv t_3)) := Lib.hid (by rw [Et_3]; exact Qt_3.out)
  clear Et_3
  replace hlt_3 := Lib.hid hlt_3
  clear Qt_3 hst_3
  have bt_3 : Below w.heap.size w wt_3 := (Below.refl _ _).grown Gt_3.out (Nat.le_refl _) (by simp)
  clear Gt_3
  have HBwt_3 := Lib.hid (Below.step HB.out bt_3)
  clear bt_3
  replace Pt_3 := Lib.hid (own_len hlt_3.out Pt_3.out)
  go_wp2_with fail
  go_wp2_with fail
  go_loopg [4] (a.length) (fun m_ v4_ wr => ∃ (k0 : Nat) (out_3l0 : (List Int)), k0 + m_ = a.length ∧ v4_ = .int .i64 (k0 : Int) ∧ Hid (cntK (l0 a) m_ k0 (out_3l0) (e0 ) = some r) ∧ Hid (Below w.heap.size w wr) ∧ Hid (wr.ownsRow w.heap.size 3 1 (.slice (some ⟨w.heap.size, 0, none⟩) t_3.length a.length) t_3.length (Go.Proofs.Ytpaakpbbahbhcaa.HelpInt.iv out_3l0)) ∧ Hid (out_3l0.length = t_3.length))
  case atStart => exact ⟨0, _, by omega, rfl, H, HBwt_3, Pt_3, Lib.hid (rfl)⟩
  case round =>
    obtain ⟨k0, out_3l0, hkm0, rfl, H, HBwr0, Oout_3l0, hnout_3l0⟩ := hrel
    rename World => wr0
    cases gk with
    | zero =>
      obtain rfl : k0 = a.length := by omega
      have hc0 : decide (((a.length : Nat) : Int) < ((a.length : Nat) : Int)) = false := by simp
      replace H := cnt_zero H
      unfold e0 at H
      replace H := let_hid H
      obtain ⟨_, rfl, H⟩ := H
      obtain rfl := ret_hid H
      go_wp2_with fail
      go_ret
      have hr_0 := hnout_3l0.out
      replace Oout_3l0 := Lib.hid (own_len hr_0 Oout_3l0.out)
      exact ⟨(some ⟨w.heap.size, 0, none⟩), a.length, (by first | (rw [hr_0]; done) | (rw [hr_0]; rfl)), Oout_3l0.out, HBwr0.out⟩
    | succ m0 =>
      have hlt0 : k0 < a.length := by omega
      have hc0 : decide ((k0 : Int) < ((a.length : Nat) : Int)) = true := by simp; omega
      replace H := cnt_succ H
      unfold l0 at H
      replace H := let_hid H
      obtain ⟨_, rfl, H⟩ := H
      replace H := idx_hid H
      obtain ⟨nt_14, yt_14, et_14, lt_14, gt_14, H⟩ := H
      obtain rfl : k0 = nt_14 := by omega
      clear et_14
      obtain ⟨ab_t_14, ao_t_14, zt_14, At_14, z_t_14, ct_14_0⟩ := Go.Proofs.Ytpaakpbbahbhcaa.HelpInt.Ints.at_ M0.out lt_14
      obtain rfl := Option.some.inj (gt_14.out.symm.trans z_t_14)
      subst At_14
      have ltt_14 := cell_lt ct_14_0
      replace ct_14_0 := cell_below HBwr0.out ct_14_0
      clear z_t_14
      have b0t_14 : (0 : Int) ≤ (k0 : Int) := by omega
      have b1t_14 : (k0 : Int) < ((a.length : Nat) : Int) := by omega
      have b2t_14 : ((k0 : Int)).toNat = k0 := by omega
      replace H := idx_hid H
      obtain ⟨nt_16, yt_16, et_16, lt_16, gt_16, H⟩ := H
      obtain rfl : k0 = nt_16 := by omega
      clear et_16
      have hqt_16 := hnout_3l0.out
      obtain ⟨ab_t_16, ao_t_16, zt_16, At_16, z_t_16, ct_16_0⟩ := Go.Proofs.Ytpaakpbbahbhcaa.HelpInt.Ints.at_ (own_cells Oout_3l0.out) (k := k0) (by omega)
      obtain rfl := Option.some.inj (gt_16.out.symm.trans z_t_16)
      simp only [Option.some.injEq, Addr.mk.injEq] at At_16
      obtain ⟨rfl, rfl, _⟩ := At_16
      clear z_t_16
      simp only [Nat.zero_add] at ct_16_0
      have b0t_16 : (0 : Int) ≤ (k0 : Int) := by omega
      have b1t_16 : (k0 : Int) < ((t_3.length : Nat) : Int) := by omega
      have b2t_16 : ((k0 : Int)).toNat = k0 := by omega
      clear hqt_16
      replace H := let_hid H
      obtain ⟨l17_17, hl17_17, H⟩ := H
      try simp only [Int.toNat_natCast] at hl17_17
      obtain ⟨wl17_17, hwl17_17⟩ : ∃ x, (wr0).setCell ⟨w.heap.size, k0, none⟩ (.int .i64 yt_14) = x := ⟨_, rfl⟩
      have z0l17_17 := Oout_3l0.out.frozenAt (k0)
      have Sl17_17 := Lib.hid (own_stores [(k0, .int .i64 yt_14)] Oout_3l0.out)
      have nl17_17 : Hid (l17_17.length = t_3.length) := Lib.hid (by rw [← hl17_17, List.length_set]; exact hnout_3l0.out)
      have Pl17_17 : Hid (wl17_17.ownsRow w.heap.size 3 1 (.slice (some ⟨w.heap.size, 0, none⟩) t_3.length a.length) t_3.length (Go.Proofs.Ytpaakpbbahbhcaa.HelpInt.iv l17_17)) := Lib.hid (by have e_ : ([(k0, .int .i64 yt_14)] : List (Nat × Value)).foldl (fun xs p => xs.set p.1 p.2) (Go.Proofs.Ytpaakpbbahbhcaa.HelpInt.iv out_3l0) = (Go.Proofs.Ytpaakpbbahbhcaa.HelpInt.iv l17_17) := (by rw [← hl17_17]; first | done | simp [Go.Proofs.Ytpaakpbbahbhcaa.HelpInt.iv, List.map_set]); rw [← hwl17_17, ← e_]; exact Sl17_17.out.1)
      have Gl17_17 : Hid (wr0.grownBy wl17_17 (Value.slice (some ⟨w.heap.size, 0, none⟩) t_3.length a.length).ownBlock) := Lib.hid (by rw [← hwl17_17]; exact Sl17_17.out.2)
      have HBwl17_17 := Lib.hid (HBwr0.out.grown Gl17_17.out HBwr0.out.size (fun q hq => (Oout_3l0.out.lt q hq).1))
      have hhl17_17 := Lib.hid hl17_17
      clear hl17_17 Sl17_17
      have ct_14_0__1 := cell_other ct_14_0 Gl17_17.out (apart_old Oout_3l0.out ltt_14)
      clear Oout_3l0 Gl17_17
      replace H := app_hid H
      go_wp2_with fail
      clear z0l17_17 ct_14_0 ct_16_0
      go_roundg m0
      case measure => omega
      case rel => exact ⟨k0 + 1, _, by omega, by go_num, H, HBwl17_17, Pl17_17, Lib.hid (nl17_17.out)⟩
end Go.Proofs.Ytpaakpbbahbhcaa.GlToIntS

/- loop.example/g01062/laws.toSighting as a plain function, and the contract of the program's: where the plain one has an answer, the program has it. Conditions: slices read as lists. -/
namespace Go.Proofs.Ytpaakpbbahbhcaa.GlToSighting
set_option linter.unusedVariables false
set_option linter.unusedSimpArgs false
open Go.RowKit
open Go.Proofs.Ytpaakpbbahbhcaa.Rowed Go.Proofs.Ytpaakpbbahbhcaa.Turn Go.Proofs.Ytpaakpbbahbhcaa.Aid Go.Proofs.Ytpaakpbbahbhcaa.GoP Go.Proofs.Ytpaakpbbahbhcaa.GoM

def P (a_id : Int) (a_year : Int) (a_town : ByteArray) (a_traits : (List Int)) : Option (Go.Proofs.Ytpaakpbbahbhcaa.PSighting.Sighting) :=
  Option.bind (Go.Proofs.Ytpaakpbbahbhcaa.GlToIntS.P a_traits) fun (t_17 : (List Int)) =>
  some (Go.Proofs.Ytpaakpbbahbhcaa.PSighting.Sighting.mk a_id a_year a_town t_17)

set_option maxRecDepth 100000 in
set_option maxHeartbeats 2000000 in
theorem C (a_id : Int) (a_year : Int) (a_town : ByteArray) (a_traits : (List Int)) (A0_3 : Option Addr) (c0_3 : Nat)  (w : World) (M0_3 : Hid (Cells w 1 A0_3 a_traits.length (Go.Proofs.Ytpaakpbbahbhcaa.HelpInt.iv a_traits))) (N0_3 : Hid (a_traits.length ≤ 9223372036854775807))  {r_id : Int} {r_year : Int} {r_town : ByteArray} {r_traits : (List Int)} (H : Hid (P a_id a_year a_town a_traits = some (Go.Proofs.Ytpaakpbbahbhcaa.PSighting.Sighting.mk r_id r_year r_town r_traits))) :
    Calls Try.prog 70 #[.agg #[.int .i64 a_id, .int .i64 a_year, .string a_town, .slice A0_3 a_traits.length c0_3]] w (fun e w' => ∃ A_r_traits c_r_traits, e = .returned (.agg #[.int .i64 r_id, .int .i64 r_year, .string r_town, .slice A_r_traits r_traits.length c_r_traits]) ∧ w'.ownsRow w.heap.size 3 1 (.slice A_r_traits r_traits.length c_r_traits) r_traits.length (Go.Proofs.Ytpaakpbbahbhcaa.HelpInt.iv r_traits) ∧ Below w.heap.size w w') := by
  have HB := Lib.hid (Below.refl w.heap.size w)
  unfold P at H
  have N0_3o := N0_3.out
  go_enter Try.func70, Try.ntmps70
  obtain ⟨w_a_0, hw_a_0⟩ : ∃ x, w.alloc (.cells #[.int .i64 a_id, .int .i64 a_year, .string a_town, .slice A0_3 a_traits.length c0_3] 81) = x := ⟨_, rfl⟩
  have bw_a_0 : Below w.heap.size w w_a_0 := by rw [← hw_a_0]; exact (Below.refl _ _).alloc (Nat.le_refl _) _
  have HBw_a_0 := Lib.hid (Below.step HB.out bw_a_0)
  clear bw_a_0
  have ka_0_0 : w_a_0.cell? ⟨w.heap.size, 0, none⟩ = some (.int .i64 a_id) := by rw [← hw_a_0]; exact box_new _ _ _ 0 _ rfl
  have ka_0_1 : w_a_0.cell? ⟨w.heap.size, 1, none⟩ = some (.int .i64 a_year) := by rw [← hw_a_0]; exact box_new _ _ _ 1 _ rfl
  have ka_0_2 : w_a_0.cell? ⟨w.heap.size, 2, none⟩ = some (.string a_town) := by rw [← hw_a_0]; exact box_new _ _ _ 2 _ rfl
  have ka_0_3 : w_a_0.cell? ⟨w.heap.size, 3, none⟩ = some (.slice A0_3 a_traits.length c0_3) := by rw [← hw_a_0]; exact box_new _ _ _ 3 _ rfl
  obtain ⟨w_t_1, hw_t_1⟩ : ∃ x, w_a_0.alloc (.cells #[.int .i64 0, .int .i64 0, .string (⟨#[]⟩ : ByteArray), .slice none 0 0] 67) = x := ⟨_, rfl⟩
  have bw_t_1 : Below w_a_0.heap.size w_a_0 w_t_1 := by rw [← hw_t_1]; exact (Below.refl _ _).alloc (Nat.le_refl _) _
  have Dt_1_a_0 := Lib.hid (apart_box ka_0_0)
  have HBw_t_1 := Lib.hid (Below.step HBw_a_0.out bw_t_1)
  have ka_0_0__2 := cell_below bw_t_1 ka_0_0
  have ka_0_1__3 := cell_below bw_t_1 ka_0_1
  have ka_0_2__4 := cell_below bw_t_1 ka_0_2
  have ka_0_3__5 := cell_below bw_t_1 ka_0_3
  clear bw_t_1
  have kt_1_0 : w_t_1.cell? ⟨w_a_0.heap.size, 0, none⟩ = some (.int .i64 0) := by rw [← hw_t_1]; exact box_new _ _ _ 0 _ rfl
  have kt_1_1 : w_t_1.cell? ⟨w_a_0.heap.size, 1, none⟩ = some (.int .i64 0) := by rw [← hw_t_1]; exact box_new _ _ _ 1 _ rfl
  have kt_1_2 : w_t_1.cell? ⟨w_a_0.heap.size, 2, none⟩ = some (.string (⟨#[]⟩ : ByteArray)) := by rw [← hw_t_1]; exact box_new _ _ _ 2 _ rfl
  have kt_1_3 : w_t_1.cell? ⟨w_a_0.heap.size, 3, none⟩ = some (.slice none 0 0) := by rw [← hw_t_1]; exact box_new _ _ _ 3 _ rfl
  have Ot_1 : Hid (w_t_1.ownsRow w.heap.size 67 4 (.slice (some ⟨w_a_0.heap.size, 0, none⟩) 1 1) 1 [.int .i64 0, .int .i64 0, .string (⟨#[]⟩ : ByteArray), .slice none 0 0]) := Lib.hid (by rw [← hw_t_1]; exact own_laid (n := 1) HBw_a_0.out.size rfl rfl (by unfold maxLen; omega))
  obtain ⟨w_out_2, hw_out_2⟩ : ∃ x, w_t_1.alloc (.cells #[.int .i64 0, .int .i64 0, .string (⟨#[]⟩ : ByteArray), .slice none 0 0] 67) = x := ⟨_, rfl⟩
  have bw_out_2 : Below w_t_1.heap.size w_t_1 w_out_2 := by rw [← hw_out_2]; exact (Below.refl _ _).alloc (Nat.le_refl _) _
  have Dout_2_a_0 := Lib.hid (apart_box ka_0_0__2)
  have Dout_2_t_1 := Lib.hid (apart_box kt_1_0)
  have HBw_out_2 := Lib.hid (Below.step HBw_t_1.out bw_out_2)
  have ka_0_0__6 := cell_below bw_out_2 ka_0_0__2
  have ka_0_1__7 := cell_below bw_out_2 ka_0_1__3
  have ka_0_2__8 := cell_below bw_out_2 ka_0_2__4
  have ka_0_3__9 := cell_below bw_out_2 ka_0_3__5
  have kt_1_0__10 := cell_below bw_out_2 kt_1_0
  have kt_1_1__11 := cell_below bw_out_2 kt_1_1
  have kt_1_2__12 := cell_below bw_out_2 kt_1_2
  have kt_1_3__13 := cell_below bw_out_2 kt_1_3
  replace Ot_1 := Lib.hid (own_below Ot_1.out bw_out_2)
  clear bw_out_2
  have kout_2_0 : w_out_2.cell? ⟨w_t_1.heap.size, 0, none⟩ = some (.int .i64 0) := by rw [← hw_out_2]; exact box_new _ _ _ 0 _ rfl
  have kout_2_1 : w_out_2.cell? ⟨w_t_1.heap.size, 1, none⟩ = some (.int .i64 0) := by rw [← hw_out_2]; exact box_new _ _ _ 1 _ rfl
  have kout_2_2 : w_out_2.cell? ⟨w_t_1.heap.size, 2, none⟩ = some (.string (⟨#[]⟩ : ByteArray)) := by rw [← hw_out_2]; exact box_new _ _ _ 2 _ rfl
  have kout_2_3 : w_out_2.cell? ⟨w_t_1.heap.size, 3, none⟩ = some (.slice none 0 0) := by rw [← hw_out_2]; exact box_new _ _ _ 3 _ rfl
  have Oout_2 : Hid (w_out_2.ownsRow w.heap.size 67 4 (.slice (some ⟨w_t_1.heap.size, 0, none⟩) 1 1) 1 [.int .i64 0, .int .i64 0, .string (⟨#[]⟩ : ByteArray), .slice none 0 0]) := Lib.hid (by rw [← hw_out_2]; exact own_laid (n := 1) HBw_t_1.out.size rfl rfl (by unfold maxLen; omega))
  obtain ⟨wb6_6, hwb6_6⟩ : ∃ x, (w_out_2).setCell ⟨w_t_1.heap.size, 0, none⟩ (.int .i64 a_id) = x := ⟨_, rfl⟩
  have z0b6_6 := Oout_2.out.frozenAt 0
  have Sb6_6 := Lib.hid (own_stores [(0, .int .i64 a_id)] Oout_2.out)
  have Pb6_6 : Hid (wb6_6.ownsRow w.heap.size 67 4 (.slice (some ⟨w_t_1.heap.size, 0, none⟩) 1 1) 1 [.int .i64 a_id, .int .i64 0, .string (⟨#[]⟩ : ByteArray), .slice none 0 0]) := Lib.hid (by rw [← hwb6_6]; exact Sb6_6.out.1)
  have Gb6_6 : Hid (w_out_2.grownBy wb6_6 (Value.slice (some ⟨w_t_1.heap.size, 0, none⟩) 1 1).ownBlock) := Lib.hid (by rw [← hwb6_6]; exact Sb6_6.out.2)
  have HBwb6_6 := Lib.hid (HBw_out_2.out.grown Gb6_6.out HBw_out_2.out.size (fun q hq => (Oout_2.out.lt q hq).1))
  clear Sb6_6
  have ka_0_0__14 := cell_other ka_0_0__6 Gb6_6.out Dout_2_a_0.out
  have ka_0_1__15 := cell_other ka_0_1__7 Gb6_6.out Dout_2_a_0.out
  have ka_0_2__16 := cell_other ka_0_2__8 Gb6_6.out Dout_2_a_0.out
  have ka_0_3__17 := cell_other ka_0_3__9 Gb6_6.out Dout_2_a_0.out
  have kt_1_0__18 := cell_other kt_1_0__10 Gb6_6.out Dout_2_t_1.out
  have kt_1_1__19 := cell_other kt_1_1__11 Gb6_6.out Dout_2_t_1.out
  have kt_1_2__20 := cell_other kt_1_2__12 Gb6_6.out Dout_2_t_1.out
  have kt_1_3__21 := cell_other kt_1_3__13 Gb6_6.out Dout_2_t_1.out
  replace Ot_1 := Lib.hid (own_other Ot_1.out Gb6_6.out Dout_2_t_1.out)
  clear Oout_2 Gb6_6
  have kout_2_0__22 : wb6_6.cell? ⟨w_t_1.heap.size, 0, none⟩ = some (.int .i64 a_id) := Pb6_6.out.cells rfl 0 _ rfl
  have kout_2_1__23 : wb6_6.cell? ⟨w_t_1.heap.size, 1, none⟩ = some (.int .i64 0) := Pb6_6.out.cells rfl 1 _ rfl
  have kout_2_2__24 : wb6_6.cell? ⟨w_t_1.heap.size, 2, none⟩ = some (.string (⟨#[]⟩ : ByteArray)) := Pb6_6.out.cells rfl 2 _ rfl
  have kout_2_3__25 : wb6_6.cell? ⟨w_t_1.heap.size, 3, none⟩ = some (.slice none 0 0) := Pb6_6.out.cells rfl 3 _ rfl
  obtain ⟨wb10_10, hwb10_10⟩ : ∃ x, (wb6_6).setCell ⟨w_t_1.heap.size, 1, none⟩ (.int .i64 a_year) = x := ⟨_, rfl⟩
  have z0b10_10 := Pb6_6.out.frozenAt 1
  have Sb10_10 := Lib.hid (own_stores [(1, .int .i64 a_year)] Pb6_6.out)
  have Pb10_10 : Hid (wb10_10.ownsRow w.heap.size 67 4 (.slice (some ⟨w_t_1.heap.size, 0, none⟩) 1 1) 1 [.int .i64 a_id, .int .i64 a_year, .string (⟨#[]⟩ : ByteArray), .slice none 0 0]) := Lib.hid (by rw [← hwb10_10]; exact Sb10_10.out.1)
  have Gb10_10 : Hid (wb6_6.grownBy wb10_10 (Value.slice (some ⟨w_t_1.heap.size, 0, none⟩) 1 1).ownBlock) := Lib.hid (by rw [← hwb10_10]; exact Sb10_10.out.2)
  have HBwb10_10 := Lib.hid (HBwb6_6.out.grown Gb10_10.out HBwb6_6.out.size (fun q hq => (Pb6_6.out.lt q hq).1))
  clear Sb10_10
  have ka_0_0__26 := cell_other ka_0_0__14 Gb10_10.out Dout_2_a_0.out
  have ka_0_1__27 := cell_other ka_0_1__15 Gb10_10.out Dout_2_a_0.out
  have ka_0_2__28 := cell_other ka_0_2__16 Gb10_10.out Dout_2_a_0.out
  have ka_0_3__29 := cell_other ka_0_3__17 Gb10_10.out Dout_2_a_0.out
  have kt_1_0__30 := cell_other kt_1_0__18 Gb10_10.out Dout_2_t_1.out
  have kt_1_1__31 := cell_other kt_1_1__19 Gb10_10.out Dout_2_t_1.out
  have kt_1_2__32 := cell_other kt_1_2__20 Gb10_10.out Dout_2_t_1.out
  have kt_1_3__33 := cell_other kt_1_3__21 Gb10_10.out Dout_2_t_1.out
  replace Ot_1 := Lib.hid (own_other Ot_1.out Gb10_10.out Dout_2_t_1.out)
  clear Pb6_6 Gb10_10
  have kout_2_0__34 : wb10_10.cell? ⟨w_t_1.heap.size, 0, none⟩ = some (.int .i64 a_id) := Pb10_10.out.cells rfl 0 _ rfl
  have kout_2_1__35 : wb10_10.cell? ⟨w_t_1.heap.size, 1, none⟩ = some (.int .i64 a_year) := Pb10_10.out.cells rfl 1 _ rfl
  have kout_2_2__36 : wb10_10.cell? ⟨w_t_1.heap.size, 2, none⟩ = some (.string (⟨#[]⟩ : ByteArray)) := Pb10_10.out.cells rfl 2 _ rfl
  have kout_2_3__37 : wb10_10.cell? ⟨w_t_1.heap.size, 3, none⟩ = some (.slice none 0 0) := Pb10_10.out.cells rfl 3 _ rfl
  obtain ⟨wb14_14, hwb14_14⟩ : ∃ x, (wb10_10).setCell ⟨w_t_1.heap.size, 2, none⟩ (.string a_town) = x := ⟨_, rfl⟩
  have z0b14_14 := Pb10_10.out.frozenAt 2
  have Sb14_14 := Lib.hid (own_stores [(2, .string a_town)] Pb10_10.out)
  have Pb14_14 : Hid (wb14_14.ownsRow w.heap.size 67 4 (.slice (some ⟨w_t_1.heap.size, 0, none⟩) 1 1) 1 [.int .i64 a_id, .int .i64 a_year, .string a_town, .slice none 0 0]) := Lib.hid (by rw [← hwb14_14]; exact Sb14_14.out.1)
  have Gb14_14 : Hid (wb10_10.grownBy wb14_14 (Value.slice (some ⟨w_t_1.heap.size, 0, none⟩) 1 1).ownBlock) := Lib.hid (by rw [← hwb14_14]; exact Sb14_14.out.2)
  have HBwb14_14 := Lib.hid (HBwb10_10.out.grown Gb14_14.out HBwb10_10.out.size (fun q hq => (Pb10_10.out.lt q hq).1))
  clear Sb14_14
  have ka_0_0__38 := cell_other ka_0_0__26 Gb14_14.out Dout_2_a_0.out
  have ka_0_1__39 := cell_other ka_0_1__27 Gb14_14.out Dout_2_a_0.out
  have ka_0_2__40 := cell_other ka_0_2__28 Gb14_14.out Dout_2_a_0.out
  have ka_0_3__41 := cell_other ka_0_3__29 Gb14_14.out Dout_2_a_0.out
  have kt_1_0__42 := cell_other kt_1_0__30 Gb14_14.out Dout_2_t_1.out
  have kt_1_1__43 := cell_other kt_1_1__31 Gb14_14.out Dout_2_t_1.out
  have kt_1_2__44 := cell_other kt_1_2__32 Gb14_14.out Dout_2_t_1.out
  have kt_1_3__45 := cell_other kt_1_3__33 Gb14_14.out Dout_2_t_1.out
  replace Ot_1 := Lib.hid (own_other Ot_1.out Gb14_14.out Dout_2_t_1.out)
  clear Pb10_10 Gb14_14
  have kout_2_0__46 : wb14_14.cell? ⟨w_t_1.heap.size, 0, none⟩ = some (.int .i64 a_id) := Pb14_14.out.cells rfl 0 _ rfl
  have kout_2_1__47 : wb14_14.cell? ⟨w_t_1.heap.size, 1, none⟩ = some (.int .i64 a_year) := Pb14_14.out.cells rfl 1 _ rfl
  have kout_2_2__48 : wb14_14.cell? ⟨w_t_1.heap.size, 2, none⟩ = some (.string a_town) := Pb14_14.out.cells rfl 2 _ rfl
  have kout_2_3__49 : wb14_14.cell? ⟨w_t_1.heap.size, 3, none⟩ = some (.slice none 0 0) := Pb14_14.out.cells rfl 3 _ rfl
  replace H := bind_hid H
  obtain ⟨t_17, qt_17, H⟩ := H
  go_wp2_with fail
  clear ka_0_0 ka_0_1 ka_0_2 ka_0_3 ka_0_0__2 ka_0_1__3 ka_0_2__4 ka_0_3__5 kt_1_0 kt_1_1 kt_1_2 kt_1_3 z0b6_6 ka_0_0__6 ka_0_1__7 ka_0_2__8 ka_0_3__9 kt_1_0__10 kt_1_1__11 kt_1_2__12 kt_1_3__13 kout_2_0 kout_2_1 kout_2_2 kout_2_3 z0b10_10 ka_0_0__14 ka_0_1__15 ka_0_2__16 ka_0_3__17 kt_1_0__18 kt_1_1__19 kt_1_2__20 kt_1_3__21 kout_2_0__22 kout_2_1__23 kout_2_2__24 kout_2_3__25 z0b14_14 ka_0_0__26 ka_0_1__27 ka_0_2__28 ka_0_3__29 kt_1_0__30 kt_1_1__31 kt_1_2__32 kt_1_3__33 kout_2_0__34 kout_2_1__35 kout_2_2__36 kout_2_3__37
  go_at_call 49
  refine (Go.Proofs.Ytpaakpbbahbhcaa.GlToIntS.C (a_traits) A0_3 c0_3 _   (Lib.hid (Cells.below M0_3.out HBwb14_14.out)) N0_3 qt_17).mono ?_
  rintro e_t_17 wt_17 ⟨At_17, ct_17, rfl, ot_17, bt_17⟩
  have Dt_17_a_0 := Lib.hid (apart_callbox ot_17 ka_0_0__38)
  have Dt_17_t_1 := Lib.hid (apart_callbox ot_17 kt_1_0__42)
  have Dt_17_out_2 := Lib.hid (apart_callbox ot_17 kout_2_0__46)
  have Ot_17 := Lib.hid (own_lower ot_17 HBwb14_14.out.size)
  clear ot_17
  have HBwt_17 := Lib.hid (Below.step HBwb14_14.out bt_17)
  replace ka_0_0__38 := cell_below bt_17 ka_0_0__38
  replace ka_0_1__39 := cell_below bt_17 ka_0_1__39
  replace ka_0_2__40 := cell_below bt_17 ka_0_2__40
  replace ka_0_3__41 := cell_below bt_17 ka_0_3__41
  replace kt_1_0__42 := cell_below bt_17 kt_1_0__42
  replace kt_1_1__43 := cell_below bt_17 kt_1_1__43
  replace kt_1_2__44 := cell_below bt_17 kt_1_2__44
  replace kt_1_3__45 := cell_below bt_17 kt_1_3__45
  replace kout_2_0__46 := cell_below bt_17 kout_2_0__46
  replace kout_2_1__47 := cell_below bt_17 kout_2_1__47
  replace kout_2_2__48 := cell_below bt_17 kout_2_2__48
  replace kout_2_3__49 := cell_below bt_17 kout_2_3__49
  replace Ot_1 := Lib.hid (own_below Ot_1.out bt_17)
  replace Pb14_14 := Lib.hid (own_below Pb14_14.out bt_17)
  clear bt_17
  obtain ⟨wb19_19, hwb19_19⟩ : ∃ x, (wt_17).setCell ⟨w_t_1.heap.size, 3, none⟩ (.slice At_17 t_17.length ct_17) = x := ⟨_, rfl⟩
  have z0b19_19 := Pb14_14.out.frozenAt 3
  have Sb19_19 := Lib.hid (own_stores [(3, .slice At_17 t_17.length ct_17)] Pb14_14.out)
  have Pb19_19 : Hid (wb19_19.ownsRow w.heap.size 67 4 (.slice (some ⟨w_t_1.heap.size, 0, none⟩) 1 1) 1 [.int .i64 a_id, .int .i64 a_year, .string a_town, .slice At_17 t_17.length ct_17]) := Lib.hid (by rw [← hwb19_19]; exact Sb19_19.out.1)
  have Gb19_19 : Hid (wt_17.grownBy wb19_19 (Value.slice (some ⟨w_t_1.heap.size, 0, none⟩) 1 1).ownBlock) := Lib.hid (by rw [← hwb19_19]; exact Sb19_19.out.2)
  have HBwb19_19 := Lib.hid (HBwt_17.out.grown Gb19_19.out HBwt_17.out.size (fun q hq => (Pb14_14.out.lt q hq).1))
  clear Sb19_19
  have ka_0_0__50 := cell_other ka_0_0__38 Gb19_19.out Dout_2_a_0.out
  have ka_0_1__51 := cell_other ka_0_1__39 Gb19_19.out Dout_2_a_0.out
  have ka_0_2__52 := cell_other ka_0_2__40 Gb19_19.out Dout_2_a_0.out
  have ka_0_3__53 := cell_other ka_0_3__41 Gb19_19.out Dout_2_a_0.out
  have kt_1_0__54 := cell_other kt_1_0__42 Gb19_19.out Dout_2_t_1.out
  have kt_1_1__55 := cell_other kt_1_1__43 Gb19_19.out Dout_2_t_1.out
  have kt_1_2__56 := cell_other kt_1_2__44 Gb19_19.out Dout_2_t_1.out
  have kt_1_3__57 := cell_other kt_1_3__45 Gb19_19.out Dout_2_t_1.out
  replace Ot_1 := Lib.hid (own_other Ot_1.out Gb19_19.out Dout_2_t_1.out)
  replace Ot_17 := Lib.hid (own_other Ot_17.out Gb19_19.out (Apart.symm Dt_17_out_2.out))
  clear Pb14_14 Gb19_19
  have kout_2_0__58 : wb19_19.cell? ⟨w_t_1.heap.size, 0, none⟩ = some (.int .i64 a_id) := Pb19_19.out.cells rfl 0 _ rfl
  have kout_2_1__59 : wb19_19.cell? ⟨w_t_1.heap.size, 1, none⟩ = some (.int .i64 a_year) := Pb19_19.out.cells rfl 1 _ rfl
  have kout_2_2__60 : wb19_19.cell? ⟨w_t_1.heap.size, 2, none⟩ = some (.string a_town) := Pb19_19.out.cells rfl 2 _ rfl
  have kout_2_3__61 : wb19_19.cell? ⟨w_t_1.heap.size, 3, none⟩ = some (.slice At_17 t_17.length ct_17) := Pb19_19.out.cells rfl 3 _ rfl
  obtain ⟨wb21_21, hwb21_21⟩ : ∃ x, ((((wb19_19).setCell ⟨w_a_0.heap.size, 0, none⟩ (.int .i64 a_id)).setCell ⟨w_a_0.heap.size, 1, none⟩ (.int .i64 a_year)).setCell ⟨w_a_0.heap.size, 2, none⟩ (.string a_town)).setCell ⟨w_a_0.heap.size, 3, none⟩ (.slice At_17 t_17.length ct_17) = x := ⟨_, rfl⟩
  have z0b21_21 := Ot_1.out.frozenAt 0
  have z1b21_21 := Ot_1.out.frozenAt 1
  have z2b21_21 := Ot_1.out.frozenAt 2
  have z3b21_21 := Ot_1.out.frozenAt 3
  have Sb21_21 := Lib.hid (own_stores [(0, .int .i64 a_id), (1, .int .i64 a_year), (2, .string a_town), (3, .slice At_17 t_17.length ct_17)] Ot_1.out)
  have Pb21_21 : Hid (wb21_21.ownsRow w.heap.size 67 4 (.slice (some ⟨w_a_0.heap.size, 0, none⟩) 1 1) 1 [.int .i64 a_id, .int .i64 a_year, .string a_town, .slice At_17 t_17.length ct_17]) := Lib.hid (by rw [← hwb21_21]; exact Sb21_21.out.1)
  have Gb21_21 : Hid (wb19_19.grownBy wb21_21 (Value.slice (some ⟨w_a_0.heap.size, 0, none⟩) 1 1).ownBlock) := Lib.hid (by rw [← hwb21_21]; exact Sb21_21.out.2)
  have HBwb21_21 := Lib.hid (HBwb19_19.out.grown Gb21_21.out HBwb19_19.out.size (fun q hq => (Ot_1.out.lt q hq).1))
  clear Sb21_21
  have ka_0_0__62 := cell_other ka_0_0__50 Gb21_21.out Dt_1_a_0.out
  have ka_0_1__63 := cell_other ka_0_1__51 Gb21_21.out Dt_1_a_0.out
  have ka_0_2__64 := cell_other ka_0_2__52 Gb21_21.out Dt_1_a_0.out
  have ka_0_3__65 := cell_other ka_0_3__53 Gb21_21.out Dt_1_a_0.out
  have kout_2_0__66 := cell_other kout_2_0__58 Gb21_21.out (Apart.symm Dout_2_t_1.out)
  have kout_2_1__67 := cell_other kout_2_1__59 Gb21_21.out (Apart.symm Dout_2_t_1.out)
  have kout_2_2__68 := cell_other kout_2_2__60 Gb21_21.out (Apart.symm Dout_2_t_1.out)
  have kout_2_3__69 := cell_other kout_2_3__61 Gb21_21.out (Apart.symm Dout_2_t_1.out)
  replace Pb19_19 := Lib.hid (own_other Pb19_19.out Gb21_21.out (Apart.symm Dout_2_t_1.out))
  replace Ot_17 := Lib.hid (own_other Ot_17.out Gb21_21.out (Apart.symm Dt_17_t_1.out))
  clear Ot_1 Gb21_21
  have kt_1_0__70 : wb21_21.cell? ⟨w_a_0.heap.size, 0, none⟩ = some (.int .i64 a_id) := Pb21_21.out.cells rfl 0 _ rfl
  have kt_1_1__71 : wb21_21.cell? ⟨w_a_0.heap.size, 1, none⟩ = some (.int .i64 a_year) := Pb21_21.out.cells rfl 1 _ rfl
  have kt_1_2__72 : wb21_21.cell? ⟨w_a_0.heap.size, 2, none⟩ = some (.string a_town) := Pb21_21.out.cells rfl 2 _ rfl
  have kt_1_3__73 : wb21_21.cell? ⟨w_a_0.heap.size, 3, none⟩ = some (.slice At_17 t_17.length ct_17) := Pb21_21.out.cells rfl 3 _ rfl
  have hR_ := ret_hid H
  simp only [Go.Proofs.Ytpaakpbbahbhcaa.PSighting.Sighting.mk.injEq] at hR_
  obtain ⟨rfl, rfl, rfl, rfl⟩ := hR_
  go_wp2_with fail
  (try simp only [Exit.inBlock, Exit.then])
  refine bodyPost_ret (v := .agg #[.int .i64 a_id, .int .i64 a_year, .string a_town, .slice At_17 t_17.length ct_17]) ?hr_ ?hd_ ?_
  case hd_ => rfl
  case hr_ => simp [results, Try.results70, kt_1_0__70, kt_1_1__71, kt_1_2__72, kt_1_3__73, go_sem]
  exact ⟨At_17, ct_17, rfl, Ot_17.out, HBwb21_21.out⟩
end Go.Proofs.Ytpaakpbbahbhcaa.GlToSighting

/- loop.example/g01062/laws.toSightingS as a plain function, and the contract of the program's: where the plain one has an answer, the program has it. Conditions: slices read as lists. -/
namespace Go.Proofs.Ytpaakpbbahbhcaa.GlToSightingS
set_option linter.unusedVariables false
set_option linter.unusedSimpArgs false
open Go.RowKit
open Go.Proofs.Ytpaakpbbahbhcaa.Rowed Go.Proofs.Ytpaakpbbahbhcaa.Turn Go.Proofs.Ytpaakpbbahbhcaa.Aid Go.Proofs.Ytpaakpbbahbhcaa.GoP Go.Proofs.Ytpaakpbbahbhcaa.GoM

def l0 (a : (List Go.Proofs.Ytpaakpbbahbhcaa.PSighting.Sighting)) (k0 : Nat) (s : (List Go.Proofs.Ytpaakpbbahbhcaa.PSighting.Sighting)) (nx0 bk0 : (List Go.Proofs.Ytpaakpbbahbhcaa.PSighting.Sighting) → Option ((List Go.Proofs.Ytpaakpbbahbhcaa.PSighting.Sighting))) : Option ((List Go.Proofs.Ytpaakpbbahbhcaa.PSighting.Sighting)) :=
  letK s fun out_3l0 =>
  Option.bind (idx a (k0 : Int)) fun (yt_14 : Go.Proofs.Ytpaakpbbahbhcaa.PSighting.Sighting) =>
  unSighting yt_14 fun (t_14_id : Int) (t_14_year : Int) (t_14_town : ByteArray) (t_14_traits : (List Int)) =>
  Option.bind (Go.Proofs.Ytpaakpbbahbhcaa.GlToSighting.P t_14_id t_14_year t_14_town t_14_traits) fun (t_16 : Go.Proofs.Ytpaakpbbahbhcaa.PSighting.Sighting) =>
  unSighting t_16 fun (t_16_id : Int) (t_16_year : Int) (t_16_town : ByteArray) (t_16_traits : (List Int)) =>
  Option.bind (idx out_3l0 (k0 : Int)) fun (yt_17 : Go.Proofs.Ytpaakpbbahbhcaa.PSighting.Sighting) =>
  unSighting yt_17 fun (t_17_id : Int) (t_17_year : Int) (t_17_town : ByteArray) (t_17_traits : (List Int)) =>
  letK (out_3l0.set k0 (Go.Proofs.Ytpaakpbbahbhcaa.PSighting.Sighting.mk t_16_id t_16_year t_16_town t_16_traits)) fun (l18_18 : (List Go.Proofs.Ytpaakpbbahbhcaa.PSighting.Sighting)) =>
  appK nx0 (l18_18)

def e0  (s : (List Go.Proofs.Ytpaakpbbahbhcaa.PSighting.Sighting)) : Option ((List Go.Proofs.Ytpaakpbbahbhcaa.PSighting.Sighting)) :=
  letK s fun out_3l0 =>
  some out_3l0

def P (a : (List Go.Proofs.Ytpaakpbbahbhcaa.PSighting.Sighting)) : Option ((List Go.Proofs.Ytpaakpbbahbhcaa.PSighting.Sighting)) :=
  guardK (0 ≤ (a.length : Int) ∧ (a.length : Int) ≤ 1099511627776) <|
  letK (List.replicate a.length (Go.Proofs.Ytpaakpbbahbhcaa.PSighting.Sighting.mk 0 0 ByteArray.empty [])) fun (t_3 : (List Go.Proofs.Ytpaakpbbahbhcaa.PSighting.Sighting)) =>
  cntK (l0 a) (a.length) 0 (t_3) (e0 )

set_option maxRecDepth 100000 in
set_option maxHeartbeats 2000000 in
theorem C (a : (List Go.Proofs.Ytpaakpbbahbhcaa.PSighting.Sighting)) (A0 : Option Addr) (c0 : Nat)  (w : World) (M0 : Hid (Go.Proofs.Ytpaakpbbahbhcaa.GoV.ReadNest w Go.Proofs.Ytpaakpbbahbhcaa.GoVSighting.lay A0 a)) (N0 : Hid (a.length ≤ 9223372036854775807))  {r : (List Go.Proofs.Ytpaakpbbahbhcaa.PSighting.Sighting)} (H : Hid (P a = some r)) :
    Calls Try.prog 31 #[.slice A0 a.length c0] w (fun e w' => ∃ A_r c_r, e = .returned (.slice A_r r.length c_r) ∧ (∃ B_, Go.Proofs.Ytpaakpbbahbhcaa.GoV.OwnNest w' (w.heap.size) 67 3 Go.Proofs.Ytpaakpbbahbhcaa.GoVSighting.lay A_r c_r r B_) ∧ Below w.heap.size w w') := by
  have HB := Lib.hid (Below.refl w.heap.size w)
  unfold P at H
  have N0o := N0.out
  obtain ⟨i0_67, hi_67, hz0_67, hz1_67, hz2_67⟩ := Aid.info_parts (P := Try.prog) (T := 67) (z := .agg #[.int .i64 0, .int .i64 0, .string ByteArray.empty, .slice none 0 0]) (s := 4) (b := 56) (by kernel_rfl)
  go_enter Try.func31, Try.ntmps31
  replace H := guard_hid H
  obtain ⟨hnt_3, H⟩ := H
  replace H := let_hid H
  obtain ⟨t_3, ht_3, H⟩ := H
  have hst_3 := HB.out.size
  have hlt_3 : t_3.length = a.length := by rw [← ht_3]; simp
  have hht_3 := Lib.hid ht_3
  clear ht_3
  go_wp2_with (at_make; refine wpList_make_full _ rfl _ _ 24 rfl w.heap.size 67 i0_67 (.agg #[.int .i64 0, .int .i64 0, .string ByteArray.empty, .slice none 0 0]) 4 Try.underlying24 hi_67 hz0_67 hz1_67 .i64 .i64 _ _ a.length rfl rfl (by omega) (by omega) (by rw [hz2_67]; omega) (by unfold maxLen; omega) hst_3 ?_; intro wt_3 ot_3 gt_3; have Qt_3 := Lib.hid ot_3; have Gt_3 := Lib.hid gt_3; clear ot_3 gt_3; refine stop_in ?_)
  refine stop_out ?_
  have hv_ : (Value.slice (some ⟨w.heap.size, 0, none⟩) a.length a.length : Value) = Value.slice (some ⟨w.heap.size, 0, none⟩) t_3.length a.length := by rw [hlt_3]
  rw [hv_]
  clear hv_
  have Pt_3 : Hid (Go.Proofs.Ytpaakpbbahbhcaa.GoV.OwnNest wt_3 (w.heap.size) 67 3 Go.Proofs.Ytpaakpbbahbhcaa.GoVSighting.lay (some ⟨w.heap.size, 0, none⟩) a.length t_3 [some ⟨w.heap.size, 0, none⟩, none]) := Lib.hid (by rw [← hht_3.out]; exact Go.Proofs.Ytpaakpbbahbhcaa.GoV.nest_zero rfl rfl rfl (by rw [← made_flat (fun p_ : Go.Proofs.Ytpaakpbbahbhcaa.PSighting.Sighting × (Option Addr × Nat) => (Go.Proofs.Ytpaakpbbahbhcaa.GoVSighting.lay).enc p_.1 p_.2) ((Go.Proofs.Ytpaakpbbahbhcaa.PSighting.Sighting.mk 0 0 ByteArray.empty []), (none, 0)) (.agg #[.int .i64 0, .int .i64 0, .string ByteArray.empty, .slice none 0 0]) 4 a.length rfl rfl (by decide)]; exact Qt_3.out))
  replace hlt_3 := Lib.hid hlt_3
  clear Qt_3 hst_3
  have bt_3 : Below w.heap.size w wt_3 := (Below.refl _ _).grown Gt_3.out (Nat.le_refl _) (by simp)
  clear Gt_3
  have HBwt_3 := Lib.hid (Below.step HB.out bt_3)
  clear bt_3
  go_wp2_with fail
  go_wp2_with fail
  go_loopg [4] (a.length) (fun m_ v4_ wr => ∃ (k0 : Nat) (out_3l0 : (List Go.Proofs.Ytpaakpbbahbhcaa.PSighting.Sighting)) (Bout_3l0 : List (Option Addr)), k0 + m_ = a.length ∧ v4_ = .int .i64 (k0 : Int) ∧ Hid (cntK (l0 a) m_ k0 (out_3l0) (e0 ) = some r) ∧ Hid (Below w.heap.size w wr) ∧ Hid (Go.Proofs.Ytpaakpbbahbhcaa.GoV.OwnNest wr (w.heap.size) 67 3 Go.Proofs.Ytpaakpbbahbhcaa.GoVSighting.lay (some ⟨w.heap.size, 0, none⟩) a.length out_3l0 Bout_3l0) ∧ Hid (out_3l0.length = t_3.length))
  case atStart => exact ⟨0, _, _, by omega, rfl, H, HBwt_3, Pt_3, Lib.hid (rfl)⟩
  case round =>
    obtain ⟨k0, out_3l0, Bout_3l0, hkm0, rfl, H, HBwr0, Oout_3l0, hnout_3l0⟩ := hrel
    rename World => wr0
    cases gk with
    | zero =>
      obtain rfl : k0 = a.length := by omega
      have hc0 : decide (((a.length : Nat) : Int) < ((a.length : Nat) : Int)) = false := by simp
      replace H := cnt_zero H
      unfold e0 at H
      replace H := let_hid H
      obtain ⟨_, rfl, H⟩ := H
      obtain rfl := ret_hid H
      go_wp2_with fail
      go_ret
      have hr_0 := hnout_3l0.out
      exact ⟨(some ⟨w.heap.size, 0, none⟩), a.length, (by first | (rw [hr_0]; done) | (rw [hr_0]; rfl)), ⟨_, Oout_3l0.out⟩, HBwr0.out⟩
    | succ m0 =>
      have hlt0 : k0 < a.length := by omega
      have hc0 : decide ((k0 : Int) < ((a.length : Nat) : Int)) = true := by simp; omega
      replace H := cnt_succ H
      unfold l0 at H
      replace H := let_hid H
      obtain ⟨_, rfl, H⟩ := H
      replace H := idx_hid H
      obtain ⟨nt_14, yt_14, et_14, lt_14, gt_14, H⟩ := H
      obtain rfl : k0 = nt_14 := by omega
      clear et_14
      obtain ⟨t_14_id, t_14_year, t_14_town, t_14_traits⟩ := yt_14
      replace H := unSighting_hid H
      obtain ⟨bbt_14, oot_14, zt_14, Art_14, crt_14, eAt_14, zzt_14, hKt_14, hrt_14, hqt_14, hnt_14⟩ := Go.Proofs.Ytpaakpbbahbhcaa.GoV.nest_at M0.out (k := k0) lt_14
      obtain rfl := Option.some.inj (gt_14.out.symm.trans zzt_14)
      clear zzt_14
      subst eAt_14
      have hct_14_0 : w.cell? ⟨bbt_14, oot_14 + k0 * 4, none⟩ = some (.int .i64 t_14_id) := hKt_14 0 _ rfl
      have hct_14_1 : w.cell? ⟨bbt_14, oot_14 + k0 * 4 + 1, none⟩ = some (.int .i64 t_14_year) := hKt_14 1 _ rfl
      have hct_14_2 : w.cell? ⟨bbt_14, oot_14 + k0 * 4 + 2, none⟩ = some (.string t_14_town) := hKt_14 2 _ rfl
      have hct_14_3 : w.cell? ⟨bbt_14, oot_14 + k0 * 4 + 3, none⟩ = some (.slice Art_14 t_14_traits.length crt_14) := hKt_14 3 _ rfl
      clear hKt_14
      have ltt_14 := cell_lt hct_14_0
      replace hct_14_0 := cell_below HBwr0.out hct_14_0
      replace hct_14_1 := cell_below HBwr0.out hct_14_1
      replace hct_14_2 := cell_below HBwr0.out hct_14_2
      replace hct_14_3 := cell_below HBwr0.out hct_14_3
      have Mrt_14 := Lib.hid hrt_14
      have Qrt_14 := Lib.hid hqt_14
      have Nrt_14 := Lib.hid hnt_14
      clear hrt_14 hqt_14 hnt_14
      have b0t_14 : (0 : Int) ≤ (k0 : Int) := by omega
      have b1t_14 : (k0 : Int) < ((a.length : Nat) : Int) := by omega
      have b2t_14 : ((k0 : Int)).toNat = k0 := by omega
      replace H := bind_hid H
      obtain ⟨t_16, qt_16, H⟩ := H
      obtain ⟨t_16_id, t_16_year, t_16_town, t_16_traits⟩ := t_16
      replace H := unSighting_hid H
      go_wp2_with fail
      go_at_call 70
      refine (Go.Proofs.Ytpaakpbbahbhcaa.GlToSighting.C (t_14_id) (t_14_year) (t_14_town) (t_14_traits) Art_14 crt_14 _   (Lib.hid (Cells.below Mrt_14.out HBwr0.out)) Nrt_14 qt_16).mono ?_
      rintro e_t_16 wt_16 ⟨At_16_traits, ct_16_traits, rfl, ot_16_traits, bt_16⟩
      have Dt_16_traits_out_3l0 := Lib.hid (Go.Proofs.Ytpaakpbbahbhcaa.GoV.nest_call ot_16_traits Oout_3l0.out)
      have Ot_16_traits := Lib.hid (own_lower ot_16_traits HBwr0.out.size)
      clear ot_16_traits
      have HBwt_16 := Lib.hid (Below.step HBwr0.out bt_16)
      replace hct_14_0 := cell_below bt_16 hct_14_0
      replace hct_14_1 := cell_below bt_16 hct_14_1
      replace hct_14_2 := cell_below bt_16 hct_14_2
      replace hct_14_3 := cell_below bt_16 hct_14_3
      replace Oout_3l0 := Lib.hid (Go.Proofs.Ytpaakpbbahbhcaa.GoV.nest_below Oout_3l0.out bt_16)
      clear bt_16
      replace H := idx_hid H
      obtain ⟨nt_17, yt_17, et_17, lt_17, gt_17, H⟩ := H
      obtain rfl : k0 = nt_17 := by omega
      clear et_17
      obtain ⟨t_17_id, t_17_year, t_17_town, t_17_traits⟩ := yt_17
      replace H := unSighting_hid H
      obtain ⟨gt_17_, zt_17, Art_17, crt_17, eAt_17, zzt_17, hKt_17, hot_17, hmt_17, hat_17⟩ := Go.Proofs.Ytpaakpbbahbhcaa.GoV.nest_own Oout_3l0.out (k := k0) lt_17
      obtain rfl := Option.some.inj (gt_17.out.symm.trans zzt_17)
      clear zzt_17
      simp only [Option.some.injEq, Addr.mk.injEq, and_true] at eAt_17
      subst eAt_17
      have hct_17_0 : wt_16.cell? ⟨w.heap.size, k0 * 4, none⟩ = some (.int .i64 t_17_id) := hKt_17 0 _ rfl
      have hct_17_1 : wt_16.cell? ⟨w.heap.size, k0 * 4 + 1, none⟩ = some (.int .i64 t_17_year) := hKt_17 1 _ rfl
      have hct_17_2 : wt_16.cell? ⟨w.heap.size, k0 * 4 + 2, none⟩ = some (.string t_17_town) := hKt_17 2 _ rfl
      have hct_17_3 : wt_16.cell? ⟨w.heap.size, k0 * 4 + 3, none⟩ = some (.slice Art_17 t_17_traits.length crt_17) := hKt_17 3 _ rfl
      clear hKt_17
      have ltt_17 := cell_lt hct_17_0
      have Ort_17 := Lib.hid hot_17
      have mrt_17 := Lib.hid hmt_17
      clear hot_17 hmt_17 hat_17
      have b0t_17 : (0 : Int) ≤ (k0 : Int) := by omega
      have b1t_17 : (k0 : Int) < ((out_3l0.length : Nat) : Int) := by omega
      have b2t_17 : ((k0 : Int)).toNat = k0 := by omega
      have hq_t_17 := hnout_3l0.out
      have b4t_17 : (k0 : Int) < ((t_3.length : Nat) : Int) := by omega
      clear hq_t_17
      replace H := let_hid H
      obtain ⟨l18_18, hl18_18, H⟩ := H
      try simp only [Int.toNat_natCast] at hl18_18
      obtain ⟨wl18_18, hwl18_18⟩ : ∃ x, ((((wt_16).setCell ⟨w.heap.size, k0 * 4, none⟩ (.int .i64 t_16_id)).setCell ⟨w.heap.size, k0 * 4 + 1, none⟩ (.int .i64 t_16_year)).setCell ⟨w.heap.size, k0 * 4 + 2, none⟩ (.string t_16_town)).setCell ⟨w.heap.size, k0 * 4 + 3, none⟩ (.slice At_16_traits t_16_traits.length ct_16_traits) = x := ⟨_, rfl⟩
      have z0l18_18 := Go.Proofs.Ytpaakpbbahbhcaa.GoV.nest_frozen Oout_3l0.out (k0 * 4)
      have z1l18_18 := Go.Proofs.Ytpaakpbbahbhcaa.GoV.nest_frozen Oout_3l0.out (k0 * 4 + 1)
      have z2l18_18 := Go.Proofs.Ytpaakpbbahbhcaa.GoV.nest_frozen Oout_3l0.out (k0 * 4 + 2)
      have z3l18_18 := Go.Proofs.Ytpaakpbbahbhcaa.GoV.nest_frozen Oout_3l0.out (k0 * 4 + 3)
      have nl18_18 : Hid (l18_18.length = t_3.length) := Lib.hid (by rw [← hl18_18, List.length_set]; exact hnout_3l0.out)
      obtain ⟨yl18_18, Rl18_18⟩ := Oout_3l0.out
      have Sl18_18 := Lib.hid (own_stores [(k0 * 4, .int .i64 t_16_id), (k0 * 4 + 1, .int .i64 t_16_year), (k0 * 4 + 2, .string t_16_town), (k0 * 4 + 3, .slice At_16_traits t_16_traits.length ct_16_traits)] Rl18_18.row)
      have Tl18_18 := Lib.hid (Go.Proofs.Ytpaakpbbahbhcaa.GoV.Rec.put (k := k0) (x := (Go.Proofs.Ytpaakpbbahbhcaa.PSighting.Sighting.mk t_16_id t_16_year t_16_town t_16_traits)) (w' := wl18_18) Rl18_18 lt_17 rfl Ot_16_traits.out Dt_16_traits_out_3l0.out (by rw [← hwl18_18]; exact Sl18_18.out.1) (by rw [← hwl18_18]; exact Sl18_18.out.2))
      have Pl18_18 : Hid (Go.Proofs.Ytpaakpbbahbhcaa.GoV.OwnNest wl18_18 (w.heap.size) 67 3 Go.Proofs.Ytpaakpbbahbhcaa.GoVSighting.lay (some ⟨w.heap.size, 0, none⟩) a.length l18_18 (At_16_traits :: Bout_3l0)) := Lib.hid (by rw [← hl18_18]; exact ⟨_, (Tl18_18.out.1.inP (fun _ _ => by simp)).anyv⟩)
      have Gl18_18 : Hid (wt_16.grownBy wl18_18 (Value.slice (some ⟨w.heap.size, 0, none⟩) t_3.length a.length).ownBlock) := Lib.hid (by rw [← hwl18_18]; exact Sl18_18.out.2)
      have Ul18_18 := Lib.hid (Go.Proofs.Ytpaakpbbahbhcaa.GoV.pushed_put (w := wt_16) (Ax := At_16_traits) (Go.Proofs.Ytpaakpbbahbhcaa.GoV.nest_head Oout_3l0.out))
      clear Sl18_18 Rl18_18
      have HBwl18_18 := Lib.hid (HBwt_16.out.grown Gl18_18.out HBwt_16.out.size (fun q hq => (Go.Proofs.Ytpaakpbbahbhcaa.GoV.nest_lt Oout_3l0.out _ (Go.Proofs.Ytpaakpbbahbhcaa.GoV.nest_head Oout_3l0.out) ⟨q, 0, none⟩ (by simpa [Value.ownBlock] using hq)).1))
      have hhl18_18 := Lib.hid hl18_18
      clear hl18_18
      have hct_14_0__74 := cell_other hct_14_0 Gl18_18.out (Go.Proofs.Ytpaakpbbahbhcaa.GoV.nest_old Oout_3l0.out ltt_14)
      have hct_14_1__75 := cell_other hct_14_1 Gl18_18.out (Go.Proofs.Ytpaakpbbahbhcaa.GoV.nest_old Oout_3l0.out ltt_14)
      have hct_14_2__76 := cell_other hct_14_2 Gl18_18.out (Go.Proofs.Ytpaakpbbahbhcaa.GoV.nest_old Oout_3l0.out ltt_14)
      have hct_14_3__77 := cell_other hct_14_3 Gl18_18.out (Go.Proofs.Ytpaakpbbahbhcaa.GoV.nest_old Oout_3l0.out ltt_14)
      replace Ot_16_traits := Lib.hid (own_other Ot_16_traits.out Gl18_18.out (Apart.symm (Dt_16_traits_out_3l0.out _ (Go.Proofs.Ytpaakpbbahbhcaa.GoV.nest_head Oout_3l0.out))))
      clear Oout_3l0 Gl18_18
      clear Tl18_18 Ul18_18
      replace H := app_hid H
      go_wp2_with fail
      clear z0l18_18 z1l18_18 z2l18_18 z3l18_18 hct_14_0 hct_14_1 hct_14_2 hct_14_3 hct_17_0 hct_17_1 hct_17_2 hct_17_3
      go_roundg m0
      case measure => omega
      case rel => exact ⟨k0 + 1, _, _, by omega, by go_num, H, HBwl18_18, Pl18_18, Lib.hid (nl18_18.out)⟩
end Go.Proofs.Ytpaakpbbahbhcaa.GlToSightingS

/- loop.example/g01062/spec.l1Own as a plain function, and the contract of the program's: where the plain one has an answer, the program has it. Conditions: slices read as lists. -/
namespace Go.Proofs.Ytpaakpbbahbhcaa.GsL1Own
set_option linter.unusedVariables false
set_option linter.unusedSimpArgs false
open Go.RowKit
open Go.Proofs.Ytpaakpbbahbhcaa.Rowed Go.Proofs.Ytpaakpbbahbhcaa.Turn Go.Proofs.Ytpaakpbbahbhcaa.Aid Go.Proofs.Ytpaakpbbahbhcaa.GoP Go.Proofs.Ytpaakpbbahbhcaa.GoM

def P (l : (List Int)) : Option ((List Int)) :=
  guardK (([] : List Int).length + l.length ≤ 1099511627776) <|
  letK (([] : List Int) ++ l) fun (t_3 : (List Int)) =>
  some t_3

set_option maxRecDepth 100000 in
set_option maxHeartbeats 2000000 in
theorem C (l : (List Int)) (A0 : Option Addr) (c0 : Nat)  (w : World) (M0 : Hid (Cells w 1 A0 l.length (Go.Proofs.Ytpaakpbbahbhcaa.HelpInt.iv l))) (N0 : Hid (l.length ≤ 9223372036854775807)) (Q0 : Hid (Room A0 l.length c0))  {r : (List Int)} (H : Hid (P l = some r)) :
    Calls Try.prog 79 #[.slice A0 l.length c0] w (fun e w' => ∃ A_r c_r, e = .returned (.slice A_r r.length c_r) ∧ w'.ownsRow w.heap.size 3 1 (.slice A_r r.length c_r) r.length (Go.Proofs.Ytpaakpbbahbhcaa.HelpInt.iv r) ∧ Below w.heap.size w w') := by
  have HB := Lib.hid (Below.refl w.heap.size w)
  unfold P at H
  have N0o := N0.out
  obtain ⟨i0_3, hi_3, hz0_3, hz1_3, hz2_3⟩ := Aid.info_parts (P := Try.prog) (T := 3) (z := .int .i64 0) (s := 1) (b := 8) (by kernel_rfl)
  go_enter Try.func79, Try.ntmps79
  obtain ⟨w_t_1, hw_t_1⟩ : ∃ x, w.alloc (.cells #[] 3) = x := ⟨_, rfl⟩
  have bw_t_1 : Below w.heap.size w w_t_1 := by rw [← hw_t_1]; exact (Below.refl _ _).alloc (Nat.le_refl _) _
  have Ot_1 : Hid (w_t_1.ownsRow w.heap.size 3 1 (.slice (some ⟨w.heap.size, 0, none⟩) 0 0) 0 []) := Lib.hid (by rw [← hw_t_1]; exact own_empty HB.out.size)
  have HBw_t_1 := Lib.hid (Below.step HB.out bw_t_1)
  clear bw_t_1
  replace H := guard_hid H
  obtain ⟨hlt_3, H⟩ := H
  replace H := let_hid H
  obtain ⟨t_3, ht_3, H⟩ := H
  have hht_3 := Lib.hid ht_3
  clear ht_3
  have hst_3 := HBw_t_1.out.size
  have Ct_3 := Lib.hid ((Cells.below M0.out HBw_t_1.out))
  go_wp2_with (at_builtin; refine append_spread rfl _ _ 32 rfl w.heap.size 3 i0_3 (.int .i64 0) 1 8 Try.underlying32 hi_3 hz0_3 hz1_3 hz2_3 rfl (by decide) (some ⟨w.heap.size, 0, none⟩) 0 0 _ rfl Ot_1.out A0 l.length c0 (Go.Proofs.Ytpaakpbbahbhcaa.HelpInt.iv l) rfl Q0.out Ct_3.out (fun u hu => by unfold Go.Proofs.Ytpaakpbbahbhcaa.HelpInt.iv at hu; obtain ⟨y_, _, rfl⟩ := List.mem_map.1 hu; rfl) (by unfold maxLen; simp only [List.length_nil] at hlt_3; omega) (by simp only [List.length_nil] at hlt_3; omega) hst_3 ?_; intro vt_3 wt_3 ot_3 gt_3 yt_3; obtain ⟨At_3, ct_3, rfl, pt_3⟩ := own_pushS (f := Go.Proofs.Ytpaakpbbahbhcaa.HelpInt.iv) hht_3.out (by simp [Go.Proofs.Ytpaakpbbahbhcaa.HelpInt.iv]) rfl ot_3; have Pt_3 := Lib.hid pt_3; have Yt_3 := Lib.hid yt_3; have Gt_3 := Lib.hid gt_3; clear ot_3 gt_3 pt_3 yt_3; refine stop_in ?_)
  refine stop_out ?_
  clear Ct_3
  have HBwt_3 := Lib.hid (HBw_t_1.out.grown Gt_3.out hst_3 (fun q hq => (Ot_1.out.lt q hq).1))
  clear hst_3
  clear Ot_1 Yt_3 Gt_3
  obtain rfl := ret_hid H
  go_wp2_with fail
  go_ret
  exact ⟨At_3, ct_3, rfl, Pt_3.out, HBwt_3.out⟩
end Go.Proofs.Ytpaakpbbahbhcaa.GsL1Own

/- loop.example/g01062/spec.l1In as a plain function, and the contract of the program's: where the plain one has an answer, the program has it. Conditions: slices read as lists. -/
namespace Go.Proofs.Ytpaakpbbahbhcaa.GsL1In
set_option linter.unusedVariables false
set_option linter.unusedSimpArgs false
open Go.RowKit
open Go.Proofs.Ytpaakpbbahbhcaa.Rowed Go.Proofs.Ytpaakpbbahbhcaa.Turn Go.Proofs.Ytpaakpbbahbhcaa.Aid Go.Proofs.Ytpaakpbbahbhcaa.GoP Go.Proofs.Ytpaakpbbahbhcaa.GoM

def P (x : Int) (a : Int) (b : Int) : Option (Bool) :=
  letK (decide (a ≤ x)) fun (t_3 : Bool) =>
  joinK (fun (t_8 : Bool) =>
  some t_8) fun jt_8 => iteK t_3 (letK (decide (x ≤ b)) fun (t_7 : Bool) =>
  appK jt_8 t_7) (appK jt_8 false)

set_option maxRecDepth 100000 in
set_option maxHeartbeats 2000000 in
theorem C (x : Int) (a : Int) (b : Int)   (w : World)   {r : Bool} (H : Hid (P x a b = some r)) :
    Calls Try.prog 92 #[.int .i64 x, .int .i64 a, .int .i64 b] w (Gives (.bool r) w) := by
  have HB := Lib.hid (Below.refl w.heap.size w)
  unfold P at H
  go_enter Try.func92, Try.ntmps92
  replace H := let_hid H
  obtain ⟨t_3, ht_3, H⟩ := H
  replace H := join_hid H
  cases t_3 with
  | false =>
    replace H := ite_f H
    replace H := app_hid H
    obtain rfl := ret_hid H
    go_wp2_with fail
    go_ret
    exact ⟨rfl, HB.out⟩
  | true =>
    replace H := ite_t H
    replace H := let_hid H
    obtain ⟨t_7, ht_7, H⟩ := H
    replace H := app_hid H
    obtain rfl := ret_hid H
    go_wp2_with fail
    go_ret
    exact ⟨rfl, HB.out⟩

set_option maxRecDepth 100000 in
set_option maxHeartbeats 2000000 in
theorem C0 (x : Int) (a : Int) (b : Int)   (w : World)   {r : Bool} (H : Hid (P x a b = some r)) :
    Calls Try.prog 92 #[.int .i64 x, .int .i64 a, .int .i64 b] w (fun e w'' => e = .returned (.bool r) ∧ w'' = w) := by
  have HB := Lib.hid (Below.refl w.heap.size w)
  unfold P at H
  go_enter Try.func92, Try.ntmps92
  replace H := let_hid H
  obtain ⟨t_3, ht_3, H⟩ := H
  replace H := join_hid H
  cases t_3 with
  | false =>
    replace H := ite_f H
    replace H := app_hid H
    obtain rfl := ret_hid H
    go_wp2_with fail
    go_ret
    exact ⟨rfl, rfl⟩
  | true =>
    replace H := ite_t H
    replace H := let_hid H
    obtain ⟨t_7, ht_7, H⟩ := H
    replace H := app_hid H
    obtain rfl := ret_hid H
    go_wp2_with fail
    go_ret
    exact ⟨rfl, rfl⟩
end Go.Proofs.Ytpaakpbbahbhcaa.GsL1In

/- loop.example/g01062/spec.l2Word as a plain function, and the contract of the program's: where the plain one has an answer, the program has it. Conditions: slices read as lists. -/
namespace Go.Proofs.Ytpaakpbbahbhcaa.GsL2Word
set_option linter.unusedVariables false
set_option linter.unusedSimpArgs false
open Go.RowKit
open Go.Proofs.Ytpaakpbbahbhcaa.Rowed Go.Proofs.Ytpaakpbbahbhcaa.Turn Go.Proofs.Ytpaakpbbahbhcaa.Aid Go.Proofs.Ytpaakpbbahbhcaa.GoP Go.Proofs.Ytpaakpbbahbhcaa.GoM

def l0 (s_0 : ByteArray) (k0 : Nat) (s : Unit) (nx0 bk0 : Unit → Option (Bool)) : Option (Bool) :=
  
  Option.bind (idx s_0.toList (k0 : Int)) fun (yt_8 : UInt8) =>
  letK ((yt_8.toNat : Int)) fun (t_8 : Int) =>
  letK (decide (t_8 < 97)) fun (t_9 : Bool) =>
  joinK (fun (t_15 : Bool) =>
  iteK t_15
  (some false)
  (appK nx0 ())) fun jt_15 => iteK t_9 (appK jt_15 true) (Option.bind (idx s_0.toList (k0 : Int)) fun (yt_13 : UInt8) =>
  letK ((yt_13.toNat : Int)) fun (t_13 : Int) =>
  letK (decide (122 < t_13)) fun (t_14 : Bool) =>
  appK jt_15 t_14)

def e0 (s_0 : ByteArray) (s : Unit) : Option (Bool) :=
  
  Option.bind (Go.Proofs.Ytpaakpbbahbhcaa.GsL1In.P (s_0.size : Int) 1 10) fun (t_22 : Bool) =>
  some t_22

def P (s_0 : ByteArray) : Option (Bool) :=
  guardK (s_0.size ≤ 9223372036854775807) <|
  cntK (l0 s_0) (s_0.size) 0 () (e0 s_0)

set_option maxRecDepth 100000 in
set_option maxHeartbeats 2000000 in
theorem C (s_0 : ByteArray)   (w : World)   {r : Bool} (H : Hid (P s_0 = some r)) :
    Calls Try.prog 98 #[.string s_0] w (Gives (.bool r) w) := by
  have HB := Lib.hid (Below.refl w.heap.size w)
  unfold P at H
  go_enter Try.func98, Try.ntmps98
  replace H := guard_hid H
  obtain ⟨hg0, H⟩ := H
  go_wp2_with fail
  go_loopg [3] (s_0.size) (fun m_ v3_ wr => ∃ (k0 : Nat) , k0 + m_ = s_0.size ∧ v3_ = .int .i64 (k0 : Int) ∧ Hid (cntK (l0 s_0) m_ k0 () (e0 s_0) = some r) ∧ Hid (Below w.heap.size w wr))
  case atStart => exact ⟨0, by omega, rfl, H, HB⟩
  case round =>
    obtain ⟨k0, hkm0, rfl, H, HBwr0⟩ := hrel
    rename World => wr0
    cases gk with
    | zero =>
      obtain rfl : k0 = s_0.size := by omega
      have hc0 : decide (((s_0.size : Nat) : Int) < ((s_0.size : Nat) : Int)) = false := by simp
      replace H := cnt_zero H
      unfold e0 at H
      replace H := bind_hid H
      obtain ⟨t_22, qt_22, H⟩ := H
      go_wp2_with fail
      go_at_call 92
      refine (Go.Proofs.Ytpaakpbbahbhcaa.GsL1In.C ((s_0.size : Int)) (1) (10)  _    qt_22).mono ?_
      rintro e_t_22 wt_22 ⟨rfl, bt_22⟩
      have HBwt_22 := Lib.hid (Below.step HBwr0.out bt_22)
      clear bt_22
      obtain rfl := ret_hid H
      go_wp2_with fail
      go_ret
      exact ⟨rfl, HBwt_22.out⟩
    | succ m0 =>
      have hlt0 : k0 < s_0.size := by omega
      have hc0 : decide ((k0 : Int) < ((s_0.size : Nat) : Int)) = true := by simp; omega
      replace H := cnt_succ H
      unfold l0 at H
      replace H := idx_hid H
      obtain ⟨nt_8, yt_8, et_8, lt_8, gt_8, H⟩ := H
      obtain rfl : k0 = nt_8 := by omega
      clear et_8
      have rt_8 := byte_rule lt_8 gt_8.out
      have b0t_8 : (0 : Int) ≤ (k0 : Int) := by omega
      have b1t_8 : (k0 : Int) < (s_0.size : Int) := by have := size_list s_0; omega
      have b2t_8 : ((k0 : Int)).toNat = k0 := by omega
      have b3t_8 : k0 < s_0.size := by have := size_list s_0; omega
      replace H := let_hid H
      obtain ⟨t_8, ht_8, H⟩ := H
      replace H := let_hid H
      obtain ⟨t_9, ht_9, H⟩ := H
      replace H := join_hid H
      cases t_9 with
      | false =>
        replace H := ite_f H
        replace H := idx_hid H
        obtain ⟨nt_13, yt_13, et_13, lt_13, gt_13, H⟩ := H
        obtain rfl : k0 = nt_13 := by omega
        clear et_13
        obtain rfl := Option.some.inj (gt_8.out.symm.trans gt_13.out)
        clear gt_13 lt_13
        replace H := let_hid H
        obtain ⟨t_13, ht_13, H⟩ := H
        obtain rfl := ht_8.symm.trans ht_13
        replace H := let_hid H
        obtain ⟨t_14, ht_14, H⟩ := H
        replace H := app_hid H
        cases t_14 with
        | false =>
          replace H := ite_f H
          replace H := app_hid H
          go_wp2_with fail
          go_roundg m0
          case measure => omega
          case rel => exact ⟨k0 + 1, by omega, by go_num, H, HBwr0⟩
        | true =>
          replace H := ite_t H
          obtain rfl := ret_hid H
          go_wp2_with fail
          go_ret
          exact ⟨rfl, HBwr0.out⟩
      | true =>
        replace H := ite_t H
        replace H := app_hid H
        replace H := ite_t H
        obtain rfl := ret_hid H
        go_wp2_with fail
        go_ret
        exact ⟨rfl, HBwr0.out⟩
end Go.Proofs.Ytpaakpbbahbhcaa.GsL2Word

/- loop.example/g01062/spec.l1Rising as a plain function, and the contract of the program's: where the plain one has an answer, the program has it. Conditions: slices read as lists. -/
namespace Go.Proofs.Ytpaakpbbahbhcaa.GsL1Rising
set_option linter.unusedVariables false
set_option linter.unusedSimpArgs false
open Go.RowKit
open Go.Proofs.Ytpaakpbbahbhcaa.Rowed Go.Proofs.Ytpaakpbbahbhcaa.Turn Go.Proofs.Ytpaakpbbahbhcaa.Aid Go.Proofs.Ytpaakpbbahbhcaa.GoP Go.Proofs.Ytpaakpbbahbhcaa.GoM

def l0 (l : (List Int)) (lo : Int) (hi : Int) (k0 : Nat) (s : Unit) (nx0 bk0 : Unit → Option (Bool)) : Option (Bool) :=
  
  Option.bind (idx l (k0 : Int)) fun (yt_8 : Int) =>
  Option.bind (Go.Proofs.Ytpaakpbbahbhcaa.GsL1In.P yt_8 lo hi) fun (t_12 : Bool) =>
  letK (!t_12) fun (t_13 : Bool) =>
  joinK (fun (t_29 : Bool) =>
  iteK t_29
  (some false)
  (appK nx0 ())) fun jt_29 => iteK t_13 (appK jt_29 true) (letK (decide (0 < (k0 : Int))) fun (t_16 : Bool) =>
  joinK (fun (t_28 : Bool) =>
  appK jt_29 t_28) fun jt_28 => iteK t_16 (letK (IntKind.i64.wrap ((k0 : Int) - 1)) fun (t_20 : Int) =>
  Option.bind (idx l t_20) fun (yt_21 : Int) =>
  Option.bind (idx l (k0 : Int)) fun (yt_25 : Int) =>
  letK (decide (yt_25 ≤ yt_21)) fun (t_27 : Bool) =>
  appK jt_28 t_27) (appK jt_28 false))

def e0  (s : Unit) : Option (Bool) :=
  
  some true

def P (l : (List Int)) (lo : Int) (hi : Int) : Option (Bool) :=
  cntK (l0 l lo hi) (l.length) 0 () (e0 )

set_option maxRecDepth 100000 in
set_option maxHeartbeats 2000000 in
theorem C (l : (List Int)) (lo : Int) (hi : Int) (A0 : Option Addr) (c0 : Nat)  (w : World) (M0 : Hid (Cells w 1 A0 l.length (Go.Proofs.Ytpaakpbbahbhcaa.HelpInt.iv l))) (N0 : Hid (l.length ≤ 9223372036854775807))  {r : Bool} (H : Hid (P l lo hi = some r)) :
    Calls Try.prog 99 #[.slice A0 l.length c0, .int .i64 lo, .int .i64 hi] w (Gives (.bool r) w) := by
  have HB := Lib.hid (Below.refl w.heap.size w)
  unfold P at H
  have N0o := N0.out
  go_enter Try.func99, Try.ntmps99
  go_wp2_with fail
  go_loopg [7] (l.length) (fun m_ v7_ wr => ∃ (k0 : Nat) , k0 + m_ = l.length ∧ v7_ = .int .i64 (k0 : Int) ∧ Hid (cntK (l0 l lo hi) m_ k0 () (e0 ) = some r) ∧ Hid (Below w.heap.size w wr))
  case atStart => exact ⟨0, by omega, rfl, H, HB⟩
  case round =>
    obtain ⟨k0, hkm0, rfl, H, HBwr0⟩ := hrel
    rename World => wr0
    cases gk with
    | zero =>
      obtain rfl : k0 = l.length := by omega
      have hc0 : decide (((l.length : Nat) : Int) < ((l.length : Nat) : Int)) = false := by simp
      replace H := cnt_zero H
      unfold e0 at H
      obtain rfl := ret_hid H
      go_wp2_with fail
      go_ret
      exact ⟨rfl, HBwr0.out⟩
    | succ m0 =>
      have hlt0 : k0 < l.length := by omega
      have hc0 : decide ((k0 : Int) < ((l.length : Nat) : Int)) = true := by simp; omega
      replace H := cnt_succ H
      unfold l0 at H
      go_wp2_with fail
      replace H := idx_hid H
      obtain ⟨nt_8, yt_8, et_8, lt_8, gt_8, H⟩ := H
      obtain rfl : k0 = nt_8 := by omega
      clear et_8
      obtain ⟨ab_t_8, ao_t_8, zt_8, At_8, z_t_8, ct_8_0⟩ := Go.Proofs.Ytpaakpbbahbhcaa.HelpInt.Ints.at_ M0.out lt_8
      obtain rfl := Option.some.inj (gt_8.out.symm.trans z_t_8)
      subst At_8
      have ltt_8 := cell_lt ct_8_0
      replace ct_8_0 := cell_below HBwr0.out ct_8_0
      clear z_t_8
      have b0t_8 : (0 : Int) ≤ (k0 : Int) := by omega
      have b1t_8 : (k0 : Int) < ((l.length : Nat) : Int) := by omega
      have b2t_8 : ((k0 : Int)).toNat = k0 := by omega
      have Hct_8_0 := Lib.hid ct_8_0
      replace ct_8_0 := cell_regrown ct_8_0
      replace H := bind_hid H
      obtain ⟨t_12, qt_12, H⟩ := H
      have nt_12 : ∀ d os, Calls Try.prog 92 #[.int .i64 yt_8, .int .i64 lo, .int .i64 hi] (Go.Sort.grow (redrawn wr0 d) os) fun e w'' => e = .returned (.bool t_12) ∧ ∃ p : Regrown, w'' = Go.Sort.grow (redrawn wr0 p.d) p.os := fun d os => Calls.regrown_of (Go.Proofs.Ytpaakpbbahbhcaa.GsL1In.C (yt_8) (lo) (hi)  _    qt_12)
      cases t_12 with
      | false =>
        replace H := let_hid H
        obtain ⟨t_13, ht_13, H⟩ := H
        obtain rfl : t_13 = true := ht_13.symm
        replace H := join_hid H
        replace H := ite_t H
        replace H := app_hid H
        refine wp_region_quiet_below (by kernel_rfl) (by kernel_rfl) ?_
        repeat (go_big_quiet_step (first | (go_at_call 92; exact nt_12 _ _)))
        refine wpQuiet_nil ?_
        intro Y4 hY4
        replace hY4 := below_class hY4
        clear nt_12
        replace ct_8_0 := Hct_8_0.out
        clear Hct_8_0
        have HBY4 := Lib.hid (Below.step HBwr0.out hY4)
        replace ct_8_0 := cell_below hY4 ct_8_0
        clear hY4
        replace H := ite_t H
        obtain rfl := ret_hid H
        go_wp2_with fail
        go_ret
        exact ⟨rfl, HBY4.out⟩
      | true =>
        replace H := let_hid H
        obtain ⟨t_13, ht_13, H⟩ := H
        obtain rfl : t_13 = false := ht_13.symm
        replace H := join_hid H
        replace H := ite_f H
        replace H := let_hid H
        obtain ⟨t_16, ht_16, H⟩ := H
        replace H := join_hid H
        cases t_16 with
        | false =>
          have nht_16 : ¬ (0 < k0) := by have := of_decide_eq_false ht_16; omega
          replace H := ite_f H
          replace H := app_hid H
          replace H := app_hid H
          refine wp_region_quiet_below (by kernel_rfl) (by kernel_rfl) ?_
          repeat (go_big_quiet_step (first | (go_at_call 92; exact nt_12 _ _)))
          refine wpQuiet_nil ?_
          intro Y4 hY4
          replace hY4 := below_class hY4
          clear nt_12
          replace ct_8_0 := Hct_8_0.out
          clear Hct_8_0
          have HBY4 := Lib.hid (Below.step HBwr0.out hY4)
          replace ct_8_0 := cell_below hY4 ct_8_0
          clear hY4
          replace H := ite_f H
          replace H := app_hid H
          go_wp2_with fail
          go_roundg m0
          case measure => omega
          case rel => exact ⟨k0 + 1, by omega, by go_num, H, HBY4⟩
        | true =>
          have nht_16 : 0 < k0 := by have := of_decide_eq_true ht_16; omega
          replace H := ite_t H
          replace H := let_hid H
          obtain ⟨t_20, ht_20, H⟩ := H
          replace H := idx_hid H
          obtain ⟨nt_21, yt_21, et_21, lt_21, gt_21, H⟩ := H
          subst et_21
          obtain ⟨ab_t_21, ao_t_21, zt_21, At_21, z_t_21, ct_21_0⟩ := Go.Proofs.Ytpaakpbbahbhcaa.HelpInt.Ints.at_ M0.out lt_21
          obtain rfl := Option.some.inj (gt_21.out.symm.trans z_t_21)
          simp only [Option.some.injEq, Addr.mk.injEq] at At_21
          obtain ⟨rfl, rfl, _⟩ := At_21
          have ltt_21 := cell_lt ct_21_0
          replace ct_21_0 := cell_below HBwr0.out ct_21_0
          clear z_t_21
          have b0t_21 : (0 : Int) ≤ (nt_21 : Int) := by omega
          have b1t_21 : (nt_21 : Int) < ((l.length : Nat) : Int) := by omega
          have b2t_21 : ((nt_21 : Int)).toNat = nt_21 := by omega
          have Hct_21_0 := Lib.hid ct_21_0
          replace ct_21_0 := cell_regrown ct_21_0
          replace H := idx_hid H
          obtain ⟨nt_25, yt_25, et_25, lt_25, gt_25, H⟩ := H
          obtain rfl : k0 = nt_25 := by omega
          clear et_25
          obtain rfl := Option.some.inj (gt_8.out.symm.trans gt_25.out)
          clear gt_25 lt_25
          replace H := let_hid H
          obtain ⟨t_27, ht_27, H⟩ := H
          replace H := app_hid H
          replace H := app_hid H
          refine wp_region_quiet_below (by kernel_rfl) (by kernel_rfl) ?_
          repeat (go_big_quiet_step (first | (go_at_call 92; exact nt_12 _ _)))
          refine wpQuiet_nil ?_
          intro Y4 hY4
          replace hY4 := below_class hY4
          clear nt_12
          replace ct_8_0 := Hct_8_0.out
          clear Hct_8_0
          replace ct_21_0 := Hct_21_0.out
          clear Hct_21_0
          have HBY4 := Lib.hid (Below.step HBwr0.out hY4)
          replace ct_8_0 := cell_below hY4 ct_8_0
          replace ct_21_0 := cell_below hY4 ct_21_0
          clear hY4
          cases t_27 with
          | false =>
            replace H := ite_f H
            replace H := app_hid H
            go_wp2_with fail
            go_roundg m0
            case measure => omega
            case rel => exact ⟨k0 + 1, by omega, by go_num, H, HBY4⟩
          | true =>
            replace H := ite_t H
            obtain rfl := ret_hid H
            go_wp2_with fail
            go_ret
            exact ⟨rfl, HBY4.out⟩
end Go.Proofs.Ytpaakpbbahbhcaa.GsL1Rising

/- loop.example/g01062/spec.l13One as a plain function, and the contract of the program's: where the plain one has an answer, the program has it. Conditions: slices read as lists. -/
namespace Go.Proofs.Ytpaakpbbahbhcaa.GsL13One
set_option linter.unusedVariables false
set_option linter.unusedSimpArgs false
open Go.RowKit
open Go.Proofs.Ytpaakpbbahbhcaa.Rowed Go.Proofs.Ytpaakpbbahbhcaa.Turn Go.Proofs.Ytpaakpbbahbhcaa.Aid Go.Proofs.Ytpaakpbbahbhcaa.GoP Go.Proofs.Ytpaakpbbahbhcaa.GoM

def P (s_0_id : Int) (s_0_year : Int) (s_0_town : ByteArray) (s_0_traits : (List Int)) : Option (Bool) :=
  Option.bind (Go.Proofs.Ytpaakpbbahbhcaa.GsL1In.P s_0_id 1 999) fun (t_4 : Bool) =>
  joinK (fun (t_9 : Bool) =>
  joinK (fun (t_14 : Bool) =>
  joinK (fun (t_20 : Bool) =>
  joinK (fun (t_25 : Bool) =>
  some t_25) fun jt_25 => iteK t_20 (Option.bind (Go.Proofs.Ytpaakpbbahbhcaa.GsL1Rising.P s_0_traits 1 50) fun (t_24 : Bool) =>
  appK jt_25 t_24) (appK jt_25 false)) fun jt_20 => iteK t_14 (letK (decide ((s_0_traits.length : Int) ≤ 8)) fun (t_19 : Bool) =>
  appK jt_20 t_19) (appK jt_20 false)) fun jt_14 => iteK t_9 (Option.bind (Go.Proofs.Ytpaakpbbahbhcaa.GsL2Word.P s_0_town) fun (t_13 : Bool) =>
  appK jt_14 t_13) (appK jt_14 false)) fun jt_9 => iteK t_4 (Option.bind (Go.Proofs.Ytpaakpbbahbhcaa.GsL1In.P s_0_year 1840 2100) fun (t_8 : Bool) =>
  appK jt_9 t_8) (appK jt_9 false)

set_option maxRecDepth 100000 in
set_option maxHeartbeats 2000000 in
theorem C (s_0_id : Int) (s_0_year : Int) (s_0_town : ByteArray) (s_0_traits : (List Int)) (A0_3 : Option Addr) (c0_3 : Nat)  (w : World) (M0_3 : Hid (Cells w 1 A0_3 s_0_traits.length (Go.Proofs.Ytpaakpbbahbhcaa.HelpInt.iv s_0_traits))) (N0_3 : Hid (s_0_traits.length ≤ 9223372036854775807))  {r : Bool} (H : Hid (P s_0_id s_0_year s_0_town s_0_traits = some r)) :
    Calls Try.prog 85 #[.agg #[.int .i64 s_0_id, .int .i64 s_0_year, .string s_0_town, .slice A0_3 s_0_traits.length c0_3]] w (Gives (.bool r) w) := by
  have HB := Lib.hid (Below.refl w.heap.size w)
  unfold P at H
  have N0_3o := N0_3.out
  go_enter Try.func85, Try.ntmps85
  obtain ⟨w_s_0, hw_s_0⟩ : ∃ x, w.alloc (.cells #[.int .i64 s_0_id, .int .i64 s_0_year, .string s_0_town, .slice A0_3 s_0_traits.length c0_3] 67) = x := ⟨_, rfl⟩
  have bw_s_0 : Below w.heap.size w w_s_0 := by rw [← hw_s_0]; exact (Below.refl _ _).alloc (Nat.le_refl _) _
  have HBw_s_0 := Lib.hid (Below.step HB.out bw_s_0)
  clear bw_s_0
  have ks_0_0 : w_s_0.cell? ⟨w.heap.size, 0, none⟩ = some (.int .i64 s_0_id) := by rw [← hw_s_0]; exact box_new _ _ _ 0 _ rfl
  have ks_0_1 : w_s_0.cell? ⟨w.heap.size, 1, none⟩ = some (.int .i64 s_0_year) := by rw [← hw_s_0]; exact box_new _ _ _ 1 _ rfl
  have ks_0_2 : w_s_0.cell? ⟨w.heap.size, 2, none⟩ = some (.string s_0_town) := by rw [← hw_s_0]; exact box_new _ _ _ 2 _ rfl
  have ks_0_3 : w_s_0.cell? ⟨w.heap.size, 3, none⟩ = some (.slice A0_3 s_0_traits.length c0_3) := by rw [← hw_s_0]; exact box_new _ _ _ 3 _ rfl
  replace H := bind_hid H
  obtain ⟨t_4, qt_4, H⟩ := H
  go_wp2_with fail
  go_at_call 92
  refine (Go.Proofs.Ytpaakpbbahbhcaa.GsL1In.C (s_0_id) (1) (999)  _    qt_4).mono ?_
  rintro e_t_4 wt_4 ⟨rfl, bt_4⟩
  have HBwt_4 := Lib.hid (Below.step HBw_s_0.out bt_4)
  replace ks_0_0 := cell_below bt_4 ks_0_0
  replace ks_0_1 := cell_below bt_4 ks_0_1
  replace ks_0_2 := cell_below bt_4 ks_0_2
  replace ks_0_3 := cell_below bt_4 ks_0_3
  clear bt_4
  replace H := join_hid H
  cases t_4 with
  | false =>
    replace H := ite_f H
    replace H := app_hid H
    replace H := join_hid H
    replace H := ite_f H
    replace H := app_hid H
    replace H := join_hid H
    replace H := ite_f H
    replace H := app_hid H
    replace H := join_hid H
    replace H := ite_f H
    replace H := app_hid H
    obtain rfl := ret_hid H
    go_wp2_with fail
    go_ret
    exact ⟨rfl, HBwt_4.out⟩
  | true =>
    replace H := ite_t H
    replace H := bind_hid H
    obtain ⟨t_8, qt_8, H⟩ := H
    go_wp2_with fail
    go_at_call 92
    refine (Go.Proofs.Ytpaakpbbahbhcaa.GsL1In.C (s_0_year) (1840) (2100)  _    qt_8).mono ?_
    rintro e_t_8 wt_8 ⟨rfl, bt_8⟩
    have HBwt_8 := Lib.hid (Below.step HBwt_4.out bt_8)
    replace ks_0_0 := cell_below bt_8 ks_0_0
    replace ks_0_1 := cell_below bt_8 ks_0_1
    replace ks_0_2 := cell_below bt_8 ks_0_2
    replace ks_0_3 := cell_below bt_8 ks_0_3
    clear bt_8
    replace H := app_hid H
    replace H := join_hid H
    cases t_8 with
    | false =>
      replace H := ite_f H
      replace H := app_hid H
      replace H := join_hid H
      replace H := ite_f H
      replace H := app_hid H
      replace H := join_hid H
      replace H := ite_f H
      replace H := app_hid H
      obtain rfl := ret_hid H
      go_wp2_with fail
      go_ret
      exact ⟨rfl, HBwt_8.out⟩
    | true =>
      replace H := ite_t H
      replace H := bind_hid H
      obtain ⟨t_13, qt_13, H⟩ := H
      go_wp2_with fail
      go_at_call 98
      refine (Go.Proofs.Ytpaakpbbahbhcaa.GsL2Word.C (s_0_town)  _    qt_13).mono ?_
      rintro e_t_13 wt_13 ⟨rfl, bt_13⟩
      have HBwt_13 := Lib.hid (Below.step HBwt_8.out bt_13)
      replace ks_0_0 := cell_below bt_13 ks_0_0
      replace ks_0_1 := cell_below bt_13 ks_0_1
      replace ks_0_2 := cell_below bt_13 ks_0_2
      replace ks_0_3 := cell_below bt_13 ks_0_3
      clear bt_13
      replace H := app_hid H
      replace H := join_hid H
      cases t_13 with
      | false =>
        replace H := ite_f H
        replace H := app_hid H
        replace H := join_hid H
        replace H := ite_f H
        replace H := app_hid H
        obtain rfl := ret_hid H
        go_wp2_with fail
        go_ret
        exact ⟨rfl, HBwt_13.out⟩
      | true =>
        replace H := ite_t H
        replace H := let_hid H
        obtain ⟨t_19, ht_19, H⟩ := H
        replace H := app_hid H
        cases t_19 with
        | false =>
          have nht_19 : ¬ (s_0_traits.length ≤ 8) := by have := of_decide_eq_false ht_19; omega
          replace H := join_hid H
          replace H := ite_f H
          replace H := app_hid H
          obtain rfl := ret_hid H
          go_wp2_with fail
          go_ret
          exact ⟨rfl, HBwt_13.out⟩
        | true =>
          have nht_19 : s_0_traits.length ≤ 8 := by have := of_decide_eq_true ht_19; omega
          replace H := join_hid H
          replace H := ite_t H
          replace H := bind_hid H
          obtain ⟨t_24, qt_24, H⟩ := H
          go_wp2_with fail
          go_at_call 99
          refine (Go.Proofs.Ytpaakpbbahbhcaa.GsL1Rising.C (s_0_traits) (1) (50) A0_3 c0_3 _   (Lib.hid (Cells.below M0_3.out HBwt_13.out)) N0_3 qt_24).mono ?_
          rintro e_t_24 wt_24 ⟨rfl, bt_24⟩
          have HBwt_24 := Lib.hid (Below.step HBwt_13.out bt_24)
          replace ks_0_0 := cell_below bt_24 ks_0_0
          replace ks_0_1 := cell_below bt_24 ks_0_1
          replace ks_0_2 := cell_below bt_24 ks_0_2
          replace ks_0_3 := cell_below bt_24 ks_0_3
          clear bt_24
          replace H := app_hid H
          obtain rfl := ret_hid H
          go_wp2_with fail
          go_ret
          exact ⟨rfl, HBwt_24.out⟩
end Go.Proofs.Ytpaakpbbahbhcaa.GsL13One

/- loop.example/g01062/spec.l13Good as a plain function, and the contract of the program's: where the plain one has an answer, the program has it. Conditions: slices read as lists. -/
namespace Go.Proofs.Ytpaakpbbahbhcaa.GsL13Good
set_option linter.unusedVariables false
set_option linter.unusedSimpArgs false
open Go.RowKit
open Go.Proofs.Ytpaakpbbahbhcaa.Rowed Go.Proofs.Ytpaakpbbahbhcaa.Turn Go.Proofs.Ytpaakpbbahbhcaa.Aid Go.Proofs.Ytpaakpbbahbhcaa.GoP Go.Proofs.Ytpaakpbbahbhcaa.GoM

def l0 (list : (List Go.Proofs.Ytpaakpbbahbhcaa.PSighting.Sighting)) (k0 : Nat) (s : Unit) (nx0 bk0 : Unit → Option (Bool)) : Option (Bool) :=
  
  Option.bind (idx list (k0 : Int)) fun (yt_8 : Go.Proofs.Ytpaakpbbahbhcaa.PSighting.Sighting) =>
  unSighting yt_8 fun (t_8_id : Int) (t_8_year : Int) (t_8_town : ByteArray) (t_8_traits : (List Int)) =>
  Option.bind (Go.Proofs.Ytpaakpbbahbhcaa.GsL13One.P t_8_id t_8_year t_8_town t_8_traits) fun (t_10 : Bool) =>
  letK (!t_10) fun (t_11 : Bool) =>
  joinK (fun (t_29 : Bool) =>
  iteK t_29
  (some false)
  (appK nx0 ())) fun jt_29 => iteK t_11 (appK jt_29 true) (letK (decide (0 < (k0 : Int))) fun (t_14 : Bool) =>
  joinK (fun (t_28 : Bool) =>
  appK jt_29 t_28) fun jt_28 => iteK t_14 (letK (IntKind.i64.wrap ((k0 : Int) - 1)) fun (t_18 : Int) =>
  Option.bind (idx list t_18) fun (yt_19 : Go.Proofs.Ytpaakpbbahbhcaa.PSighting.Sighting) =>
  unSighting yt_19 fun (t_19_id : Int) (t_19_year : Int) (t_19_town : ByteArray) (t_19_traits : (List Int)) =>
  Option.bind (idx list (k0 : Int)) fun (yt_24 : Go.Proofs.Ytpaakpbbahbhcaa.PSighting.Sighting) =>
  unSighting yt_24 fun (t_24_id : Int) (t_24_year : Int) (t_24_town : ByteArray) (t_24_traits : (List Int)) =>
  letK (decide (t_24_id ≤ t_19_id)) fun (t_27 : Bool) =>
  appK jt_28 t_27) (appK jt_28 false))

def e0 (list : (List Go.Proofs.Ytpaakpbbahbhcaa.PSighting.Sighting)) (s : Unit) : Option (Bool) :=
  
  letK (decide ((list.length : Int) ≤ 10)) fun (t_36 : Bool) =>
  some t_36

def P (list : (List Go.Proofs.Ytpaakpbbahbhcaa.PSighting.Sighting)) : Option (Bool) :=
  cntK (l0 list) (list.length) 0 () (e0 list)

set_option maxRecDepth 100000 in
set_option maxHeartbeats 2000000 in
theorem C (list : (List Go.Proofs.Ytpaakpbbahbhcaa.PSighting.Sighting)) (A0 : Option Addr) (c0 : Nat)  (w : World) (M0 : Hid (Go.Proofs.Ytpaakpbbahbhcaa.GoV.ReadNest w Go.Proofs.Ytpaakpbbahbhcaa.GoVSighting.lay A0 list)) (N0 : Hid (list.length ≤ 9223372036854775807))  {r : Bool} (H : Hid (P list = some r)) :
    Calls Try.prog 56 #[.slice A0 list.length c0] w (Gives (.bool r) w) := by
  have HB := Lib.hid (Below.refl w.heap.size w)
  unfold P at H
  have N0o := N0.out
  go_enter Try.func56, Try.ntmps56
  go_wp2_with fail
  go_loopg [3] (list.length) (fun m_ v3_ wr => ∃ (k0 : Nat) , k0 + m_ = list.length ∧ v3_ = .int .i64 (k0 : Int) ∧ Hid (cntK (l0 list) m_ k0 () (e0 list) = some r) ∧ Hid (Below w.heap.size w wr))
  case atStart => exact ⟨0, by omega, rfl, H, HB⟩
  case round =>
    obtain ⟨k0, hkm0, rfl, H, HBwr0⟩ := hrel
    rename World => wr0
    cases gk with
    | zero =>
      obtain rfl : k0 = list.length := by omega
      have hc0 : decide (((list.length : Nat) : Int) < ((list.length : Nat) : Int)) = false := by simp
      replace H := cnt_zero H
      unfold e0 at H
      replace H := let_hid H
      obtain ⟨t_36, ht_36, H⟩ := H
      try have nhr_t_36 : decide (list.length ≤ 10) = t_36 := by rw [← ht_36, decide_eq_decide]; omega
      obtain rfl := ret_hid H
      go_wp2_with fail
      go_ret
      exact ⟨rfl, HBwr0.out⟩
    | succ m0 =>
      have hlt0 : k0 < list.length := by omega
      have hc0 : decide ((k0 : Int) < ((list.length : Nat) : Int)) = true := by simp; omega
      replace H := cnt_succ H
      unfold l0 at H
      go_wp2_with fail
      replace H := idx_hid H
      obtain ⟨nt_8, yt_8, et_8, lt_8, gt_8, H⟩ := H
      obtain rfl : k0 = nt_8 := by omega
      clear et_8
      obtain ⟨t_8_id, t_8_year, t_8_town, t_8_traits⟩ := yt_8
      replace H := unSighting_hid H
      obtain ⟨bbt_8, oot_8, zt_8, Art_8, crt_8, eAt_8, zzt_8, hKt_8, hrt_8, hqt_8, hnt_8⟩ := Go.Proofs.Ytpaakpbbahbhcaa.GoV.nest_at M0.out (k := k0) lt_8
      obtain rfl := Option.some.inj (gt_8.out.symm.trans zzt_8)
      clear zzt_8
      subst eAt_8
      have hct_8_0 : w.cell? ⟨bbt_8, oot_8 + k0 * 4, none⟩ = some (.int .i64 t_8_id) := hKt_8 0 _ rfl
      have hct_8_1 : w.cell? ⟨bbt_8, oot_8 + k0 * 4 + 1, none⟩ = some (.int .i64 t_8_year) := hKt_8 1 _ rfl
      have hct_8_2 : w.cell? ⟨bbt_8, oot_8 + k0 * 4 + 2, none⟩ = some (.string t_8_town) := hKt_8 2 _ rfl
      have hct_8_3 : w.cell? ⟨bbt_8, oot_8 + k0 * 4 + 3, none⟩ = some (.slice Art_8 t_8_traits.length crt_8) := hKt_8 3 _ rfl
      clear hKt_8
      have ltt_8 := cell_lt hct_8_0
      replace hct_8_0 := cell_below HBwr0.out hct_8_0
      replace hct_8_1 := cell_below HBwr0.out hct_8_1
      replace hct_8_2 := cell_below HBwr0.out hct_8_2
      replace hct_8_3 := cell_below HBwr0.out hct_8_3
      have Mrt_8 := Lib.hid hrt_8
      have Qrt_8 := Lib.hid hqt_8
      have Nrt_8 := Lib.hid hnt_8
      clear hrt_8 hqt_8 hnt_8
      have b0t_8 : (0 : Int) ≤ (k0 : Int) := by omega
      have b1t_8 : (k0 : Int) < ((list.length : Nat) : Int) := by omega
      have b2t_8 : ((k0 : Int)).toNat = k0 := by omega
      have Hhct_8_0 := Lib.hid hct_8_0
      replace hct_8_0 := cell_regrown hct_8_0
      have Hhct_8_1 := Lib.hid hct_8_1
      replace hct_8_1 := cell_regrown hct_8_1
      have Hhct_8_2 := Lib.hid hct_8_2
      replace hct_8_2 := cell_regrown hct_8_2
      have Hhct_8_3 := Lib.hid hct_8_3
      replace hct_8_3 := cell_regrown hct_8_3
      replace H := bind_hid H
      obtain ⟨t_10, qt_10, H⟩ := H
      have nt_10 : ∀ d os, Calls Try.prog 85 #[.agg #[.int .i64 t_8_id, .int .i64 t_8_year, .string t_8_town, .slice Art_8 t_8_traits.length crt_8]] (Go.Sort.grow (redrawn wr0 d) os) fun e w'' => e = .returned (.bool t_10) ∧ ∃ p : Regrown, w'' = Go.Sort.grow (redrawn wr0 p.d) p.os := fun d os => Calls.regrown_of (Go.Proofs.Ytpaakpbbahbhcaa.GsL13One.C (t_8_id) (t_8_year) (t_8_town) (t_8_traits) Art_8 crt_8 _   (Lib.hid (Cells.below (Cells.below Mrt_8.out HBwr0.out) (below_regrown _ _ _))) Nrt_8 qt_10)
      cases t_10 with
      | false =>
        replace H := let_hid H
        obtain ⟨t_11, ht_11, H⟩ := H
        obtain rfl : t_11 = true := ht_11.symm
        replace H := join_hid H
        replace H := ite_t H
        replace H := app_hid H
        refine wp_region_quiet_below (by kernel_rfl) (by kernel_rfl) ?_
        repeat (go_big_quiet_step (first | (go_at_call 85; exact nt_10 _ _)))
        refine wpQuiet_nil ?_
        intro Y4 hY4
        replace hY4 := below_class hY4
        clear nt_10
        replace hct_8_0 := Hhct_8_0.out
        clear Hhct_8_0
        replace hct_8_1 := Hhct_8_1.out
        clear Hhct_8_1
        replace hct_8_2 := Hhct_8_2.out
        clear Hhct_8_2
        replace hct_8_3 := Hhct_8_3.out
        clear Hhct_8_3
        have HBY4 := Lib.hid (Below.step HBwr0.out hY4)
        replace hct_8_0 := cell_below hY4 hct_8_0
        replace hct_8_1 := cell_below hY4 hct_8_1
        replace hct_8_2 := cell_below hY4 hct_8_2
        replace hct_8_3 := cell_below hY4 hct_8_3
        clear hY4
        replace H := ite_t H
        obtain rfl := ret_hid H
        go_wp2_with fail
        go_ret
        exact ⟨rfl, HBY4.out⟩
      | true =>
        replace H := let_hid H
        obtain ⟨t_11, ht_11, H⟩ := H
        obtain rfl : t_11 = false := ht_11.symm
        replace H := join_hid H
        replace H := ite_f H
        replace H := let_hid H
        obtain ⟨t_14, ht_14, H⟩ := H
        replace H := join_hid H
        cases t_14 with
        | false =>
          have nht_14 : ¬ (0 < k0) := by have := of_decide_eq_false ht_14; omega
          replace H := ite_f H
          replace H := app_hid H
          replace H := app_hid H
          refine wp_region_quiet_below (by kernel_rfl) (by kernel_rfl) ?_
          repeat (go_big_quiet_step (first | (go_at_call 85; exact nt_10 _ _)))
          refine wpQuiet_nil ?_
          intro Y4 hY4
          replace hY4 := below_class hY4
          clear nt_10
          replace hct_8_0 := Hhct_8_0.out
          clear Hhct_8_0
          replace hct_8_1 := Hhct_8_1.out
          clear Hhct_8_1
          replace hct_8_2 := Hhct_8_2.out
          clear Hhct_8_2
          replace hct_8_3 := Hhct_8_3.out
          clear Hhct_8_3
          have HBY4 := Lib.hid (Below.step HBwr0.out hY4)
          replace hct_8_0 := cell_below hY4 hct_8_0
          replace hct_8_1 := cell_below hY4 hct_8_1
          replace hct_8_2 := cell_below hY4 hct_8_2
          replace hct_8_3 := cell_below hY4 hct_8_3
          clear hY4
          replace H := ite_f H
          replace H := app_hid H
          go_wp2_with fail
          go_roundg m0
          case measure => omega
          case rel => exact ⟨k0 + 1, by omega, by go_num, H, HBY4⟩
        | true =>
          have nht_14 : 0 < k0 := by have := of_decide_eq_true ht_14; omega
          replace H := ite_t H
          replace H := let_hid H
          obtain ⟨t_18, ht_18, H⟩ := H
          replace H := idx_hid H
          obtain ⟨nt_19, yt_19, et_19, lt_19, gt_19, H⟩ := H
          subst et_19
          obtain ⟨t_19_id, t_19_year, t_19_town, t_19_traits⟩ := yt_19
          replace H := unSighting_hid H
          obtain ⟨bbt_19, oot_19, zt_19, Art_19, crt_19, eAt_19, zzt_19, hKt_19, hrt_19, hqt_19, hnt_19⟩ := Go.Proofs.Ytpaakpbbahbhcaa.GoV.nest_at M0.out (k := nt_19) lt_19
          obtain rfl := Option.some.inj (gt_19.out.symm.trans zzt_19)
          clear zzt_19
          simp only [Option.some.injEq, Addr.mk.injEq] at eAt_19
          obtain ⟨rfl, rfl, _⟩ := eAt_19
          have hct_19_0 : w.cell? ⟨bbt_8, oot_8 + nt_19 * 4, none⟩ = some (.int .i64 t_19_id) := hKt_19 0 _ rfl
          have hct_19_1 : w.cell? ⟨bbt_8, oot_8 + nt_19 * 4 + 1, none⟩ = some (.int .i64 t_19_year) := hKt_19 1 _ rfl
          have hct_19_2 : w.cell? ⟨bbt_8, oot_8 + nt_19 * 4 + 2, none⟩ = some (.string t_19_town) := hKt_19 2 _ rfl
          have hct_19_3 : w.cell? ⟨bbt_8, oot_8 + nt_19 * 4 + 3, none⟩ = some (.slice Art_19 t_19_traits.length crt_19) := hKt_19 3 _ rfl
          clear hKt_19
          have ltt_19 := cell_lt hct_19_0
          replace hct_19_0 := cell_below HBwr0.out hct_19_0
          replace hct_19_1 := cell_below HBwr0.out hct_19_1
          replace hct_19_2 := cell_below HBwr0.out hct_19_2
          replace hct_19_3 := cell_below HBwr0.out hct_19_3
          have Mrt_19 := Lib.hid hrt_19
          have Qrt_19 := Lib.hid hqt_19
          have Nrt_19 := Lib.hid hnt_19
          clear hrt_19 hqt_19 hnt_19
          have b0t_19 : (0 : Int) ≤ (nt_19 : Int) := by omega
          have b1t_19 : (nt_19 : Int) < ((list.length : Nat) : Int) := by omega
          have b2t_19 : ((nt_19 : Int)).toNat = nt_19 := by omega
          have Hhct_19_0 := Lib.hid hct_19_0
          replace hct_19_0 := cell_regrown hct_19_0
          have Hhct_19_1 := Lib.hid hct_19_1
          replace hct_19_1 := cell_regrown hct_19_1
          have Hhct_19_2 := Lib.hid hct_19_2
          replace hct_19_2 := cell_regrown hct_19_2
          have Hhct_19_3 := Lib.hid hct_19_3
          replace hct_19_3 := cell_regrown hct_19_3
          replace H := idx_hid H
          obtain ⟨nt_24, yt_24, et_24, lt_24, gt_24, H⟩ := H
          obtain rfl : k0 = nt_24 := by omega
          clear et_24
          obtain rfl := Option.some.inj (gt_8.out.symm.trans gt_24.out)
          clear gt_24 lt_24
          replace H := unSighting_hid H
          replace H := let_hid H
          obtain ⟨t_27, ht_27, H⟩ := H
          replace H := app_hid H
          replace H := app_hid H
          refine wp_region_quiet_below (by kernel_rfl) (by kernel_rfl) ?_
          repeat (go_big_quiet_step (first | (go_at_call 85; exact nt_10 _ _)))
          refine wpQuiet_nil ?_
          intro Y4 hY4
          replace hY4 := below_class hY4
          clear nt_10
          replace hct_8_0 := Hhct_8_0.out
          clear Hhct_8_0
          replace hct_8_1 := Hhct_8_1.out
          clear Hhct_8_1
          replace hct_8_2 := Hhct_8_2.out
          clear Hhct_8_2
          replace hct_8_3 := Hhct_8_3.out
          clear Hhct_8_3
          replace hct_19_0 := Hhct_19_0.out
          clear Hhct_19_0
          replace hct_19_1 := Hhct_19_1.out
          clear Hhct_19_1
          replace hct_19_2 := Hhct_19_2.out
          clear Hhct_19_2
          replace hct_19_3 := Hhct_19_3.out
          clear Hhct_19_3
          have HBY4 := Lib.hid (Below.step HBwr0.out hY4)
          replace hct_8_0 := cell_below hY4 hct_8_0
          replace hct_8_1 := cell_below hY4 hct_8_1
          replace hct_8_2 := cell_below hY4 hct_8_2
          replace hct_8_3 := cell_below hY4 hct_8_3
          replace hct_19_0 := cell_below hY4 hct_19_0
          replace hct_19_1 := cell_below hY4 hct_19_1
          replace hct_19_2 := cell_below hY4 hct_19_2
          replace hct_19_3 := cell_below hY4 hct_19_3
          clear hY4
          cases t_27 with
          | false =>
            replace H := ite_f H
            replace H := app_hid H
            go_wp2_with fail
            go_roundg m0
            case measure => omega
            case rel => exact ⟨k0 + 1, by omega, by go_num, H, HBY4⟩
          | true =>
            replace H := ite_t H
            obtain rfl := ret_hid H
            go_wp2_with fail
            go_ret
            exact ⟨rfl, HBY4.out⟩
end Go.Proofs.Ytpaakpbbahbhcaa.GsL13Good

