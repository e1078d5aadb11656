/- Texts on which the proofs of several laws stand, one behind the other (17 of 18). No condition of their own. -/
import Derived.Test.YtgbcdmlcmnaimaaChecked
import Derived.Test.YtgbcdmlcmnaimaaX10P1
import Derived.Test.YtgbcdmlcmnaimaaX10P16
import Derived.WalkKit
import Derived.WalkSpells
import Derived.WalkLawsBesides
import Derived.BigQuiet
import Derived.OwnWalk
import Derived.Deep.LoopGhost
import Derived.Deep.QuietTactic
import Derived.IntWalk
import Derived.Lib.QuietBelow
import Derived.Test.YtgbcdmlcmnaimaaX10P10
import Derived.Test.YtgbcdmlcmnaimaaX10P12
import Derived.Test.YtgbcdmlcmnaimaaX10P8
import Derived.Test.YtgbcdmlcmnaimaaX10P7
import Derived.Test.YtgbcdmlcmnaimaaX10P4
import Derived.Test.YtgbcdmlcmnaimaaX10P9
import Derived.Test.YtgbcdmlcmnaimaaX10P11
set_option linter.unusedVariables false
set_option linter.unusedSimpArgs false
namespace Go.Proofs.Ytgbcdmlcmnaimaa.GxSlicesIndexFuncIntIntiCoversVia1
open Go.RowKit
open Go.Proofs.Ytgbcdmlcmnaimaa.Rowed Go.Proofs.Ytgbcdmlcmnaimaa.Turn Go.Proofs.Ytgbcdmlcmnaimaa.Aid Go.Proofs.Ytgbcdmlcmnaimaa.GoP Go.Proofs.Ytgbcdmlcmnaimaa.GoM

def l0 (s_0 : (List Int)) (hf1_0 : (List Go.Proofs.Ytgbcdmlcmnaimaa.PMail.Mail)) (hf1_1 : Int) (k0 : Nat) (s : Unit) (nx0 bk0 : Unit → Option (Int)) : Option (Int) :=
  
  Option.bind (idx s_0 (k0 : Int)) fun (yt_10 : Int) =>
  Option.bind (Go.Proofs.Ytgbcdmlcmnaimaa.GiCoversVia1.P yt_10 hf1_0 hf1_1) fun (t_12 : Bool) =>
  iteK t_12
  (some (k0 : Int))
  (appK nx0 ())

def e0  (s : Unit) : Option (Int) :=
  
  some (-1)

def P (s_0 : (List Int)) (hf1_0 : (List Go.Proofs.Ytgbcdmlcmnaimaa.PMail.Mail)) (hf1_1 : Int) : Option (Int) :=
  cntK (l0 s_0 hf1_0 hf1_1) (s_0.length) 0 () (e0 )

set_option maxRecDepth 100000 in
set_option maxHeartbeats 2000000 in
theorem C (s_0 : (List Int)) (hf1_0 : (List Go.Proofs.Ytgbcdmlcmnaimaa.PMail.Mail)) (hf1_1 : Int) (A0 : Option Addr) (c0 : Nat) (Ahf1_0 : Option Addr) (chf1_0 : Nat) (gf1_0 : Nat) (gf1_1 : Nat) (w : World) (M0 : Hid (Cells w 1 A0 s_0.length (Go.Proofs.Ytgbcdmlcmnaimaa.HelpInt.iv s_0))) (N0 : Hid (s_0.length ≤ 9223372036854775807)) (Mhf1_0 : Hid (Cells w 4 Ahf1_0 hf1_0.length (Go.Proofs.Ytgbcdmlcmnaimaa.PMail.flat hf1_0))) (Nhf1_0 : Hid (hf1_0.length ≤ 9223372036854775807)) (Ff1_0h : Hid (w.cell? ⟨gf1_0, 0, none⟩ = some (.slice Ahf1_0 hf1_0.length chf1_0))) (Ff1_1h : Hid (w.cell? ⟨gf1_1, 0, none⟩ = some (.int .i64 hf1_1))) {r : Int} (H : Hid (P s_0 hf1_0 hf1_1 = some r)) :
    Calls Try.prog 101 #[.slice A0 s_0.length c0, .func (.func 71) #[] #[.pointer (some ⟨gf1_0, 0, none⟩), .pointer (some ⟨gf1_1, 0, none⟩)]] w (Gives (.int .i64 r) w) := by
  have HB := Lib.hid (Below.refl w.heap.size w)
  unfold P at H
  have N0o := N0.out
  have Nhf1_0o := Nhf1_0.out
  have Ff1_0 := Ff1_0h.out
  have Ff1_1 := Ff1_1h.out
  go_enter Try.func101, Try.ntmps101
  go_wp2_with fail
  go_loopg [8] (s_0.length) (fun m_ v8_ wr => ∃ (k0 : Nat) , k0 + m_ = s_0.length ∧ v8_ = .int .i64 (k0 : Int) ∧ Hid (cntK (l0 s_0 hf1_0 hf1_1) m_ k0 () (e0 ) = some r) ∧ Hid (Below w.heap.size w wr) ∧ wr.cell? ⟨gf1_0, 0, none⟩ = some (.slice Ahf1_0 hf1_0.length chf1_0) ∧ wr.cell? ⟨gf1_1, 0, none⟩ = some (.int .i64 hf1_1))
  case atStart => exact ⟨0, by omega, rfl, H, HB, Ff1_0, Ff1_1⟩
  case round =>
    obtain ⟨k0, hkm0, rfl, H, HBwr0, Ff1_0, Ff1_1⟩ := hrel
    rename World => wr0
    cases gk with
    | zero =>
      obtain rfl : k0 = s_0.length := by omega
      have hc0 : decide (((s_0.length : Nat) : Int) < ((s_0.length : Nat) : Int)) = false := by simp
      replace H := cnt_zero H
      unfold e0 at H
      obtain rfl := ret_hid H
      go_wp2_with fail
      go_ret
      exact ⟨rfl, HBwr0.out⟩
    | succ m0 =>
      have hlt0 : k0 < s_0.length := by omega
      have hc0 : decide ((k0 : Int) < ((s_0.length : Nat) : Int)) = true := by simp; omega
      replace H := cnt_succ H
      unfold l0 at H
      replace H := idx_hid H
      obtain ⟨nt_10, yt_10, et_10, lt_10, gt_10, H⟩ := H
      obtain rfl : k0 = nt_10 := by omega
      clear et_10
      obtain ⟨ab_t_10, ao_t_10, zt_10, At_10, z_t_10, ct_10_0⟩ := Go.Proofs.Ytgbcdmlcmnaimaa.HelpInt.Ints.at_ M0.out lt_10
      obtain rfl := Option.some.inj (gt_10.out.symm.trans z_t_10)
      subst At_10
      have ltt_10 := cell_lt ct_10_0
      replace ct_10_0 := cell_below HBwr0.out ct_10_0
      clear z_t_10
      have b0t_10 : (0 : Int) ≤ (k0 : Int) := by omega
      have b1t_10 : (k0 : Int) < ((s_0.length : Nat) : Int) := by omega
      have b2t_10 : ((k0 : Int)).toNat = k0 := by omega
      replace H := bind_hid H
      obtain ⟨t_12, qt_12, H⟩ := H
      go_wp2_with fail
      go_at_call 71
      refine (Go.Proofs.Ytgbcdmlcmnaimaa.GiCoversVia1.C (yt_10) (hf1_0) (hf1_1) Ahf1_0 chf1_0 (gf1_0) (gf1_1) _   (Lib.hid (Cells.below Mhf1_0.out HBwr0.out)) Nhf1_0 (Lib.hid Ff1_0) (Lib.hid Ff1_1) qt_12).mono ?_
      rintro e_t_12 wt_12 ⟨rfl, bt_12⟩
      have HBwt_12 := Lib.hid (Below.step HBwr0.out bt_12)
      replace Ff1_0 := cell_below bt_12 Ff1_0
      replace Ff1_1 := cell_below bt_12 Ff1_1
      replace ct_10_0 := cell_below bt_12 ct_10_0
      clear bt_12
      cases t_12 with
      | false =>
        replace H := ite_f H
        replace H := app_hid H
        go_wp2_with fail
        go_roundg m0
        case measure => omega
        case rel => exact ⟨k0 + 1, by omega, by go_num, H, HBwt_12, Ff1_0, Ff1_1⟩
      | true =>
        replace H := ite_t H
        obtain rfl := ret_hid H
        go_wp2_with fail
        go_ret
        exact ⟨rfl, HBwt_12.out⟩
end Go.Proofs.Ytgbcdmlcmnaimaa.GxSlicesIndexFuncIntIntiCoversVia1

namespace Go.Proofs.Ytgbcdmlcmnaimaa.GxSlicesContainsFuncIntIntiCoversVia1
open Go.RowKit
open Go.Proofs.Ytgbcdmlcmnaimaa.Rowed Go.Proofs.Ytgbcdmlcmnaimaa.Turn Go.Proofs.Ytgbcdmlcmnaimaa.Aid Go.Proofs.Ytgbcdmlcmnaimaa.GoP Go.Proofs.Ytgbcdmlcmnaimaa.GoM

def P (s_0 : (List Int)) (hf1_0 : (List Go.Proofs.Ytgbcdmlcmnaimaa.PMail.Mail)) (hf1_1 : Int) : Option (Bool) :=
  Option.bind (Go.Proofs.Ytgbcdmlcmnaimaa.GxSlicesIndexFuncIntIntiCoversVia1.P s_0 hf1_0 hf1_1) fun (t_3 : Int) =>
  letK (decide (0 ≤ t_3)) fun (t_4 : Bool) =>
  some t_4

set_option maxRecDepth 100000 in
set_option maxHeartbeats 2000000 in
theorem C (s_0 : (List Int)) (hf1_0 : (List Go.Proofs.Ytgbcdmlcmnaimaa.PMail.Mail)) (hf1_1 : Int) (A0 : Option Addr) (c0 : Nat) (Ahf1_0 : Option Addr) (chf1_0 : Nat) (gf1_0 : Nat) (gf1_1 : Nat) (w : World) (M0 : Hid (Cells w 1 A0 s_0.length (Go.Proofs.Ytgbcdmlcmnaimaa.HelpInt.iv s_0))) (N0 : Hid (s_0.length ≤ 9223372036854775807)) (Mhf1_0 : Hid (Cells w 4 Ahf1_0 hf1_0.length (Go.Proofs.Ytgbcdmlcmnaimaa.PMail.flat hf1_0))) (Nhf1_0 : Hid (hf1_0.length ≤ 9223372036854775807)) (Ff1_0h : Hid (w.cell? ⟨gf1_0, 0, none⟩ = some (.slice Ahf1_0 hf1_0.length chf1_0))) (Ff1_1h : Hid (w.cell? ⟨gf1_1, 0, none⟩ = some (.int .i64 hf1_1))) {r : Bool} (H : Hid (P s_0 hf1_0 hf1_1 = some r)) :
    Calls Try.prog 73 #[.slice A0 s_0.length c0, .func (.func 71) #[] #[.pointer (some ⟨gf1_0, 0, none⟩), .pointer (some ⟨gf1_1, 0, none⟩)]] w (Gives (.bool r) w) := by
  have HB := Lib.hid (Below.refl w.heap.size w)
  unfold P at H
  have N0o := N0.out
  have Nhf1_0o := Nhf1_0.out
  have Ff1_0 := Ff1_0h.out
  have Ff1_1 := Ff1_1h.out
  go_enter Try.func73, Try.ntmps73
  replace H := bind_hid H
  obtain ⟨t_3, qt_3, H⟩ := H
  go_wp2_with fail
  go_at_call 101
  refine (Go.Proofs.Ytgbcdmlcmnaimaa.GxSlicesIndexFuncIntIntiCoversVia1.C (s_0) (hf1_0) (hf1_1) A0 c0 Ahf1_0 chf1_0 (gf1_0) (gf1_1) _   (Lib.hid (Cells.below M0.out HB.out)) N0 (Lib.hid (Cells.below Mhf1_0.out HB.out)) Nhf1_0 (Lib.hid Ff1_0) (Lib.hid Ff1_1) qt_3).mono ?_
  rintro e_t_3 wt_3 ⟨rfl, bt_3⟩
  have HBwt_3 := Lib.hid (Below.step HB.out bt_3)
  replace Ff1_0 := cell_below bt_3 Ff1_0
  replace Ff1_1 := cell_below bt_3 Ff1_1
  clear bt_3
  replace H := let_hid H
  obtain ⟨t_4, ht_4, H⟩ := H
  obtain rfl := ret_hid H
  go_wp2_with fail
  go_ret
  exact ⟨rfl, HBwt_3.out⟩
end Go.Proofs.Ytgbcdmlcmnaimaa.GxSlicesContainsFuncIntIntiCoversVia1

namespace Go.Proofs.Ytgbcdmlcmnaimaa.GiCoversVia2iCoversVia1
open Go.RowKit
open Go.Proofs.Ytgbcdmlcmnaimaa.Rowed Go.Proofs.Ytgbcdmlcmnaimaa.Turn Go.Proofs.Ytgbcdmlcmnaimaa.Aid Go.Proofs.Ytgbcdmlcmnaimaa.GoP Go.Proofs.Ytgbcdmlcmnaimaa.GoM

def P (fuel : Nat) (x : PCover.Cover) (hq0 : (List PMail.Mail)) (hq1i0 : (List PMail.Mail)) (hq1i1 : Int) : Option (Bool) :=
 unCover x fun (x_id : Int) (x_day : Int) (x_zone : Int) (x_grams : Int) (x_paid : Int) (x_from_ : Int) (x_to_ : Int) (x_leave : Int) (x_arrive : Int) =>
 bind2 (GiRouteOn.P fuel hq0 (PCover.Cover.mk x_id x_day x_zone x_grams x_paid x_from_ x_to_ x_leave x_arrive)) fun (t_4a : (List Int)) (t_4b : Bool) =>
 Option.bind (GxSlicesContainsFuncIntIntiCoversVia1.P t_4a hq1i0 hq1i1) fun (t_12 : Bool) =>
 some t_12

set_option maxRecDepth 100000 in
set_option maxHeartbeats 2000000 in
theorem C (fuel : Nat) (x : PCover.Cover) (hq0 : (List PMail.Mail)) (hq1i0 : (List PMail.Mail)) (hq1i1 : Int) (Ahq0 : Option Addr) (chq0 : Nat) (Ahq1i0 : Option Addr) (chq1i0 : Nat) (gq0 : Nat) (gq1 : Nat) (gq1i0 : Nat) (gq1i1 : Nat) (w : World) (Mhq0 : Hid (Cells w 4 Ahq0 hq0.length (PMail.flat hq0))) (Nhq0 : Hid (hq0.length ≤ 9223372036854775807)) (Mhq1i0 : Hid (Cells w 4 Ahq1i0 hq1i0.length (PMail.flat hq1i0))) (Nhq1i0 : Hid (hq1i0.length ≤ 9223372036854775807)) (Fq0h : Hid (w.cell? ⟨gq0, 0, none⟩ = some (.slice Ahq0 hq0.length chq0))) (Fq1h : Hid (w.cell? ⟨gq1, 0, none⟩ = some (.func (.func 71) #[] #[.pointer (some ⟨gq1i0, 0, none⟩), .pointer (some ⟨gq1i1, 0, none⟩)]))) (Fq1i0h : Hid (w.cell? ⟨gq1i0, 0, none⟩ = some (.slice Ahq1i0 hq1i0.length chq1i0))) (Fq1i1h : Hid (w.cell? ⟨gq1i1, 0, none⟩ = some (.int .i64 hq1i1))) {r : Bool} (H : Hid (P fuel x hq0 hq1i0 hq1i1 = some r)) :
  Calls Try.prog 72 #[x.val, .pointer (some ⟨gq0, 0, none⟩), .pointer (some ⟨gq1, 0, none⟩)] w (Gives (.bool r) w) := by
 have HB := Lib.hid (Below.refl w.heap.size w); unfold P at H; obtain ⟨x_id, x_day, x_zone, x_grams, x_paid, x_from_, x_to_, x_leave, x_arrive⟩ := x; replace H := unCover_hid H; unfold PCover.Cover.val; have h11 := Nhq0.out; have d11 := Nhq1i0.out; have Fq0 := Fq0h.out; have Fq1 := Fq1h.out; have w10 := Fq1i0h.out; have v10 := Fq1i1h.out
 go_enter Try.func72, Try.ntmps72
 obtain ⟨b10, c10⟩ : ∃ x, w.alloc (.cells #[.int .i64 x_id, .int .i64 x_day, .int .i64 x_zone, .int .i64 x_grams, .int .i64 x_paid, .int .i64 x_from_, .int .i64 x_to_, .int .i64 x_leave, .int .i64 x_arrive] 27) = x := ⟨_, rfl⟩; have d10 : Below w.heap.size w b10 := (by rw [← c10]; exact (Below.refl _ _).alloc (Nat.le_refl _) _); have s10 := Lib.hid (Below.step HB.out d10); have o10 := cell_below d10 Fq0; have e10 := cell_below d10 w10; have g10 := cell_below d10 v10; have j10 := cell_below d10 Fq1; clear d10; have f10 : b10.cell? ⟨w.heap.size, 0, none⟩ = some (.int .i64 x_id) := (by rw [← c10]; exact box_new _ _ _ 0 _ rfl); have q10 : b10.cell? ⟨w.heap.size, 1, none⟩ = some (.int .i64 x_day) := (by rw [← c10]; exact box_new _ _ _ 1 _ rfl); have i10 : b10.cell? ⟨w.heap.size, 2, none⟩ = some (.int .i64 x_zone) := (by rw [← c10]; exact box_new _ _ _ 2 _ rfl); have h10 : b10.cell? ⟨w.heap.size, 3, none⟩ = some (.int .i64 x_grams) := (by rw [← c10]; exact box_new _ _ _ 3 _ rfl); have p10 : b10.cell? ⟨w.heap.size, 4, none⟩ = some (.int .i64 x_paid) := (by rw [← c10]; exact box_new _ _ _ 4 _ rfl); have l10 : b10.cell? ⟨w.heap.size, 5, none⟩ = some (.int .i64 x_from_) := (by rw [← c10]; exact box_new _ _ _ 5 _ rfl); have n10 : b10.cell? ⟨w.heap.size, 6, none⟩ = some (.int .i64 x_to_) := (by rw [← c10]; exact box_new _ _ _ 6 _ rfl); have k10 : b10.cell? ⟨w.heap.size, 7, none⟩ = some (.int .i64 x_leave) := (by rw [← c10]; exact box_new _ _ _ 7 _ rfl); have m10 : b10.cell? ⟨w.heap.size, 8, none⟩ = some (.int .i64 x_arrive) := (by rw [← c10]; exact box_new _ _ _ 8 _ rfl); replace H := bind2_hid H; obtain ⟨t_4a, t_4b, qt_4, H⟩ := H; go_wp2_with fail; clear Fq0 w10 v10 Fq1; go_at_call 11; refine (GiRouteOn.C fuel (hq0) ((PCover.Cover.mk x_id x_day x_zone x_grams x_paid x_from_ x_to_ x_leave x_arrive)) Ahq0 chq0 _   (Lib.hid (Cells.below Mhq0.out s10.out)) Nhq0 qt_4).mono ?_; rintro e11 wt_4 ⟨z10, a11, rfl, t10, bt_4⟩; have f11 := Lib.hid (apart_callbox t10 f10); have r10 := Lib.hid (own_lower t10 s10.out.size); clear t10; have x10 := Lib.hid (Below.step s10.out bt_4); replace o10 := cell_below bt_4 o10; replace e10 := cell_below bt_4 e10; replace g10 := cell_below bt_4 g10; replace j10 := cell_below bt_4 j10; replace f10 := cell_below bt_4 f10; replace q10 := cell_below bt_4 q10; replace i10 := cell_below bt_4 i10; replace h10 := cell_below bt_4 h10; replace p10 := cell_below bt_4 p10; replace l10 := cell_below bt_4 l10; replace n10 := cell_below bt_4 n10; replace k10 := cell_below bt_4 k10; replace m10 := cell_below bt_4 m10; clear bt_4; replace H := bind_hid H; obtain ⟨t_12, b11, H⟩ := H; go_wp2_with fail; go_at_call 73; refine (GxSlicesContainsFuncIntIntiCoversVia1.C (t_4a) (hq1i0) (hq1i1) z10 a11 Ahq1i0 chq1i0 (gq1i0) (gq1i1) _   (Lib.hid (own_cells r10.out)) (Lib.hid (own_max r10.out)) (Lib.hid (Cells.below Mhq1i0.out x10.out)) Nhq1i0 (Lib.hid e10) (Lib.hid g10) b11).mono ?_; rintro c11 g11 ⟨rfl, a10⟩; have y10 := Lib.hid (Below.step x10.out a10); replace o10 := cell_below a10 o10; replace e10 := cell_below a10 e10; replace g10 := cell_below a10 g10; replace j10 := cell_below a10 j10; replace f10 := cell_below a10 f10; replace q10 := cell_below a10 q10; replace i10 := cell_below a10 i10; replace h10 := cell_below a10 h10; replace p10 := cell_below a10 p10; replace l10 := cell_below a10 l10; replace n10 := cell_below a10 n10; replace k10 := cell_below a10 k10; replace m10 := cell_below a10 m10; replace r10 := Lib.hid (own_below r10.out a10); clear a10; obtain rfl := ret_hid H; go_wp2_with fail; go_ret; exact ⟨rfl, y10.out⟩
end Go.Proofs.Ytgbcdmlcmnaimaa.GiCoversVia2iCoversVia1

namespace Go.Proofs.Ytgbcdmlcmnaimaa.GiKeysWhereCoverIntiIdOfCoveriCoversVia2
open Go.RowKit
open Go.Proofs.Ytgbcdmlcmnaimaa.Rowed Go.Proofs.Ytgbcdmlcmnaimaa.Turn Go.Proofs.Ytgbcdmlcmnaimaa.Aid Go.Proofs.Ytgbcdmlcmnaimaa.GoP Go.Proofs.Ytgbcdmlcmnaimaa.GoM

def l0 (list : (List PCover.Cover)) (hf2_0 : (List PMail.Mail)) (hf2_1i0 : (List PMail.Mail)) (hf2_1i1 : Int) (fuel : Nat) (k0 : Nat) (s : (List Int)) (nx0 bk0 : (List Int) → Option ((List Int))) : Option ((List Int)) :=
 letK s fun keys_7l0 =>
 Option.bind (idx list (k0 : Int)) fun (yt_7 : PCover.Cover) =>
 unCover yt_7 fun (t_7_id : Int) (t_7_day : Int) (t_7_zone : Int) (t_7_grams : Int) (t_7_paid : Int) (t_7_from_ : Int) (t_7_to_ : Int) (t_7_leave : Int) (t_7_arrive : Int) =>
 Option.bind (GiCoversVia2iCoversVia1.P fuel (PCover.Cover.mk t_7_id t_7_day t_7_zone t_7_grams t_7_paid t_7_from_ t_7_to_ t_7_leave t_7_arrive) hf2_0 hf2_1i0 hf2_1i1) fun (t_13 : Bool) =>
 iteK t_13
 (Option.bind (GiIdOfCover.P (PCover.Cover.mk t_7_id t_7_day t_7_zone t_7_grams t_7_paid t_7_from_ t_7_to_ t_7_leave t_7_arrive)) fun (t_17 : Int) =>
 guardK (keys_7l0.length ≤ 1099511627776) <|
 letK (keys_7l0 ++ [t_17]) fun (t_19 : (List Int)) =>
 appK nx0 (t_19))
 (appK nx0 (keys_7l0))

def e0  (s : (List Int)) : Option ((List Int)) :=
 letK s fun keys_7l0 =>
 some keys_7l0

def P (fuel : Nat) (list : (List PCover.Cover)) (hf2_0 : (List PMail.Mail)) (hf2_1i0 : (List PMail.Mail)) (hf2_1i1 : Int) : Option ((List Int)) :=
 cntK (l0 list hf2_0 hf2_1i0 hf2_1i1 fuel) (list.length) 0 (([] : List Int)) (e0 )

set_option maxRecDepth 100000 in
set_option maxHeartbeats 2000000 in
theorem C (fuel : Nat) (list : (List PCover.Cover)) (hf2_0 : (List PMail.Mail)) (hf2_1i0 : (List PMail.Mail)) (hf2_1i1 : Int) (A0 : Option Addr) (c0 : Nat) (Ahf2_0 : Option Addr) (chf2_0 : Nat) (Ahf2_1i0 : Option Addr) (chf2_1i0 : Nat) (gf2_0 : Nat) (gf2_1 : Nat) (gf2_1i0 : Nat) (gf2_1i1 : Nat) (w : World) (M0 : Hid (Cells w 9 A0 list.length (PCover.flat list))) (N0 : Hid (list.length ≤ 9223372036854775807)) (Mhf2_0 : Hid (Cells w 4 Ahf2_0 hf2_0.length (PMail.flat hf2_0))) (Nhf2_0 : Hid (hf2_0.length ≤ 9223372036854775807)) (Mhf2_1i0 : Hid (Cells w 4 Ahf2_1i0 hf2_1i0.length (PMail.flat hf2_1i0))) (Nhf2_1i0 : Hid (hf2_1i0.length ≤ 9223372036854775807)) (Ff2_0h : Hid (w.cell? ⟨gf2_0, 0, none⟩ = some (.slice Ahf2_0 hf2_0.length chf2_0))) (Ff2_1h : Hid (w.cell? ⟨gf2_1, 0, none⟩ = some (.func (.func 71) #[] #[.pointer (some ⟨gf2_1i0, 0, none⟩), .pointer (some ⟨gf2_1i1, 0, none⟩)]))) (Ff2_1i0h : Hid (w.cell? ⟨gf2_1i0, 0, none⟩ = some (.slice Ahf2_1i0 hf2_1i0.length chf2_1i0))) (Ff2_1i1h : Hid (w.cell? ⟨gf2_1i1, 0, none⟩ = some (.int .i64 hf2_1i1))) {r : (List Int)} (H : Hid (P fuel list hf2_0 hf2_1i0 hf2_1i1 = some r)) :
  Calls Try.prog 67 #[.slice A0 list.length c0, .func (.func 68) #[] #[], .func (.func 72) #[] #[.pointer (some ⟨gf2_0, 0, none⟩), .pointer (some ⟨gf2_1, 0, none⟩)]] w (fun e w' => ∃ A_r c_r, e = .returned (.slice A_r r.length c_r) ∧ w'.ownsRow w.heap.size 3 1 (.slice A_r r.length c_r) r.length (HelpInt.iv r) ∧ Below w.heap.size w w') := by
 have HB := Lib.hid (Below.refl w.heap.size w); unfold P at H; have N0o := N0.out; have w14 := Nhf2_0.out; have t14 := Nhf2_1i0.out; have e13 := Ff2_0h.out; have m13 := Ff2_1h.out; have o12 := Ff2_1i0h.out; have l13 := Ff2_1i1h.out; obtain ⟨i0_3, hi_3, z13, g14, y13⟩ := Aid.info_parts (P := Try.prog) (T := 3) (z := .int .i64 0) (s := 1) (b := 8) (by kernel_rfl)
 go_enter Try.func67, Try.ntmps67
 obtain ⟨t12, h13⟩ : ∃ x, w.alloc (.cells #[] 3) = x := ⟨_, rfl⟩; have p10 : Below w.heap.size w t12 := (by rw [← h13]; exact (Below.refl _ _).alloc (Nat.le_refl _) _); have Ot_1 : Hid (t12.ownsRow w.heap.size 3 1 (.slice (some ⟨w.heap.size, 0, none⟩) 0 0) 0 []) := Lib.hid (by rw [← h13]; exact own_empty HB.out.size); have d14 := Lib.hid (Below.step HB.out p10); have c12 := cell_below p10 e13; have h12 := cell_below p10 o12; have o11 := cell_below p10 l13; have y11 := cell_below p10 m13; clear p10; go_wp2_with fail; clear e13 o12 l13 m13; go_loopg [13, 7] (list.length) (fun m_ v13_ v7_ wr => ∃ (k0 : Nat) (x10 : (List Int)) (q11 : Option Addr) (d12 : Nat), k0 + m_ = list.length ∧ v13_ = .int .i64 (k0 : Int) ∧ v7_ = .slice q11 x10.length d12 ∧ Hid (cntK (l0 list hf2_0 hf2_1i0 hf2_1i1 fuel) m_ k0 (x10) (e0 ) = some r) ∧ Hid (Below w.heap.size w wr) ∧ wr.cell? ⟨gf2_0, 0, none⟩ = some (.slice Ahf2_0 hf2_0.length chf2_0) ∧ wr.cell? ⟨gf2_1i0, 0, none⟩ = some (.slice Ahf2_1i0 hf2_1i0.length chf2_1i0) ∧ wr.cell? ⟨gf2_1i1, 0, none⟩ = some (.int .i64 hf2_1i1) ∧ wr.cell? ⟨gf2_1, 0, none⟩ = some (.func (.func 71) #[] #[.pointer (some ⟨gf2_1i0, 0, none⟩), .pointer (some ⟨gf2_1i1, 0, none⟩)]) ∧ Hid (wr.ownsRow w.heap.size 3 1 (.slice q11 x10.length d12) x10.length (HelpInt.iv x10)))
 case atStart => exact ⟨0, _, _, _, by omega, rfl, rfl, H, d14, c12, h12, o11, y11, Ot_1⟩
 case round =>
  obtain ⟨k0, x10, q11, d12, hkm0, rfl, rfl, H, g10, c12, h12, o11, y11, d10⟩ := hrel; rename World => wr0
  cases gk with
  | zero =>
   obtain rfl : k0 = list.length := (by omega); have hc0 : decide (((list.length : Nat) : Int) < ((list.length : Nat) : Int)) = false := (by simp); replace H := cnt_zero H; unfold e0 at H; replace H := let_hid H; obtain ⟨_, rfl, H⟩ := H; obtain rfl := ret_hid H; go_wp2_with fail; go_ret; exact ⟨q11, d12, rfl, d10.out, g10.out⟩
  | succ m0 =>
   have hlt0 : k0 < list.length := (by omega); have hc0 : decide ((k0 : Int) < ((list.length : Nat) : Int)) = true := (by simp; omega); replace H := cnt_succ H; unfold l0 at H; replace H := let_hid H; obtain ⟨_, rfl, H⟩ := H; replace H := idx_hid H; obtain ⟨nt_7, yt_7, et_7, lt_7, gt_7, H⟩ := H; obtain rfl : k0 = nt_7 := (by omega); clear et_7; obtain ⟨b12, t11, x11, p11, a12, j12, k12, f12, m11⟩ := yt_7; replace H := unCover_hid H; obtain ⟨m14, l14, zt_7, At_7, s12, l11, e12, z11, r11, g12, v11, n11, i12, s11⟩ := OCover.at_ M0.out lt_7; obtain rfl := Option.some.inj (gt_7.out.symm.trans s12); subst At_7; have k10 := cell_lt l11; replace l11 := cell_below g10.out l11; replace e12 := cell_below g10.out e12; replace z11 := cell_below g10.out z11; replace r11 := cell_below g10.out r11; replace g12 := cell_below g10.out g12; replace v11 := cell_below g10.out v11; replace n11 := cell_below g10.out n11; replace i12 := cell_below g10.out i12; replace s11 := cell_below g10.out s11; clear s12; have s14 : (0 : Int) ≤ (k0 : Int) := (by omega); have v14 : (k0 : Int) < ((list.length : Nat) : Int) := (by omega); have k14 : ((k0 : Int)).toNat = k0 := (by omega); obtain ⟨j10, h10⟩ : ∃ x, wr0.alloc (.cells #[.int .i64 b12, .int .i64 t11, .int .i64 x11, .int .i64 p11, .int .i64 a12, .int .i64 j12, .int .i64 k12, .int .i64 f12, .int .i64 m11] 27) = x := ⟨_, rfl⟩; have f10 : Below wr0.heap.size wr0 j10 := (by rw [← h10]; exact (Below.refl _ _).alloc (Nat.le_refl _) _); have i10 := Lib.hid (apart_fresh d10.out); have m12 := Lib.hid (Below.step g10.out f10); have l10 := cell_below f10 c12; have o10 := cell_below f10 h12; have n10 := cell_below f10 o11; have m10 := cell_below f10 y11; have t10 := cell_below f10 l11; have e11 := cell_below f10 e12; have h11 := cell_below f10 z11; have f11 := cell_below f10 r11; have w10 := cell_below f10 g12; have r10 := cell_below f10 v11; have c11 := cell_below f10 n11; have j11 := cell_below f10 i12; have z10 := cell_below f10 s11; replace d10 := Lib.hid (own_below d10.out f10); clear f10; have g11 : j10.cell? ⟨wr0.heap.size, 0, none⟩ = some (.int .i64 b12) := (by rw [← h10]; exact box_new _ _ _ 0 _ rfl); have y10 : j10.cell? ⟨wr0.heap.size, 1, none⟩ = some (.int .i64 t11) := (by rw [← h10]; exact box_new _ _ _ 1 _ rfl); have q10 : j10.cell? ⟨wr0.heap.size, 2, none⟩ = some (.int .i64 x11) := (by rw [← h10]; exact box_new _ _ _ 2 _ rfl); have b11 : j10.cell? ⟨wr0.heap.size, 3, none⟩ = some (.int .i64 p11) := (by rw [← h10]; exact box_new _ _ _ 3 _ rfl); have a11 : j10.cell? ⟨wr0.heap.size, 4, none⟩ = some (.int .i64 a12) := (by rw [← h10]; exact box_new _ _ _ 4 _ rfl); have i11 : j10.cell? ⟨wr0.heap.size, 5, none⟩ = some (.int .i64 j12) := (by rw [← h10]; exact box_new _ _ _ 5 _ rfl); have s10 : j10.cell? ⟨wr0.heap.size, 6, none⟩ = some (.int .i64 k12) := (by rw [← h10]; exact box_new _ _ _ 6 _ rfl); have d11 : j10.cell? ⟨wr0.heap.size, 7, none⟩ = some (.int .i64 f12) := (by rw [← h10]; exact box_new _ _ _ 7 _ rfl); have v10 : j10.cell? ⟨wr0.heap.size, 8, none⟩ = some (.int .i64 m11) := (by rw [← h10]; exact box_new _ _ _ 8 _ rfl); replace H := bind_hid H; obtain ⟨t_13, b14, H⟩ := H; go_wp2_with fail; clear c12 h12 o11 y11 l11 e12 z11 r11 g12 v11 n11 i12 s11; go_at_call 72; refine (GiCoversVia2iCoversVia1.C fuel ((PCover.Cover.mk b12 t11 x11 p11 a12 j12 k12 f12 m11)) (hf2_0) (hf2_1i0) (hf2_1i1) Ahf2_0 chf2_0 Ahf2_1i0 chf2_1i0 (gf2_0) (gf2_1) (gf2_1i0) (gf2_1i1) _   (Lib.hid (Cells.below Mhf2_0.out m12.out)) Nhf2_0 (Lib.hid (Cells.below Mhf2_1i0.out m12.out)) Nhf2_1i0 (Lib.hid l10) (Lib.hid m10) (Lib.hid o10) (Lib.hid n10) b14).mono ?_; rintro r14 j14 ⟨rfl, c10⟩; have f13 := Lib.hid (Below.step m12.out c10); replace l10 := cell_below c10 l10; replace o10 := cell_below c10 o10; replace n10 := cell_below c10 n10; replace m10 := cell_below c10 m10; replace t10 := cell_below c10 t10; replace e11 := cell_below c10 e11; replace h11 := cell_below c10 h11
   replace f11 := cell_below c10 f11; replace w10 := cell_below c10 w10; replace r10 := cell_below c10 r10; replace c11 := cell_below c10 c11; replace j11 := cell_below c10 j11; replace z10 := cell_below c10 z10; replace g11 := cell_below c10 g11; replace y10 := cell_below c10 y10; replace q10 := cell_below c10 q10; replace b11 := cell_below c10 b11; replace a11 := cell_below c10 a11; replace i11 := cell_below c10 i11; replace s10 := cell_below c10 s10; replace d11 := cell_below c10 d11; replace v10 := cell_below c10 v10; replace d10 := Lib.hid (own_below d10.out c10); clear c10
   cases t_13 with
   | false =>
    replace H := ite_f H; replace H := app_hid H; go_wp2_with fail
    go_roundg m0
    case measure => omega
    case rel => exact ⟨k0 + 1, _, _, _, by omega, by go_num, rfl, H, f13, l10, o10, n10, m10, d10⟩
   | true =>
    replace H := ite_t H; replace H := bind_hid H; obtain ⟨t_17, h14, H⟩ := H; go_wp2_with fail; go_at_call 68; refine (GiIdOfCover.C ((PCover.Cover.mk b12 t11 x11 p11 a12 j12 k12 f12 m11))  _    h14).mono ?_; rintro p14 w11 ⟨rfl, a10⟩; have i14 := Lib.hid (Below.step f13.out a10); replace l10 := cell_below a10 l10; replace o10 := cell_below a10 o10; replace n10 := cell_below a10 n10; replace m10 := cell_below a10 m10; replace t10 := cell_below a10 t10; replace e11 := cell_below a10 e11; replace h11 := cell_below a10 h11; replace f11 := cell_below a10 f11; replace w10 := cell_below a10 w10; replace r10 := cell_below a10 r10; replace c11 := cell_below a10 c11; replace j11 := cell_below a10 j11; replace z10 := cell_below a10 z10; replace g11 := cell_below a10 g11; replace y10 := cell_below a10 y10; replace q10 := cell_below a10 q10; replace b11 := cell_below a10 b11; replace a11 := cell_below a10 a11; replace i11 := cell_below a10 i11; replace s10 := cell_below a10 s10; replace d11 := cell_below a10 d11; replace v10 := cell_below a10 v10; replace d10 := Lib.hid (own_below d10.out a10); clear a10; obtain ⟨e14, y12⟩ : ∃ x, w11.alloc (.cells #[.int .i64 t_17] 3) = x := ⟨_, rfl⟩; have b10 : Below w11.heap.size w11 e14 := (by rw [← y12]; exact (Below.refl _ _).alloc (Nat.le_refl _) _); have v13 := Lib.hid (Below.step i14.out b10); have t13 := cell_below b10 l10; have q13 := cell_below b10 o10; have q12 := cell_below b10 n10; have v12 := cell_below b10 m10; have w12 := cell_below b10 t10; have z12 := cell_below b10 e11; have c13 := cell_below b10 h11; have r13 := cell_below b10 f11; have p13 := cell_below b10 w10; have x12 := cell_below b10 r10; have p12 := cell_below b10 c11; have w13 := cell_below b10 j11; have i13 := cell_below b10 z10; have l12 := cell_below b10 g11; have x13 := cell_below b10 y10; have a13 := cell_below b10 q10; have n13 := cell_below b10 b11; have o13 := cell_below b10 a11; have k13 := cell_below b10 i11; have d13 := cell_below b10 s10; have j13 := cell_below b10 d11; have r12 := cell_below b10 v10; replace d10 := Lib.hid (own_below d10.out b10); clear b10; replace H := guard_hid H; obtain ⟨o14, H⟩ := H; replace H := let_hid H; obtain ⟨t_19, g13, H⟩ := H; have c14 := Lib.hid g13; clear g13; have n12 := v13.out.size; go_wp2_with (at_builtin; refine wpList_append_own_at _ rfl _ _ 33 rfl w.heap.size 3 i0_3 (.int .i64 0) 1 8 Try.underlying33 hi_3 z13 g14 y13 rfl (by decide) _ _ _ rfl d10.out ⟨w11.heap.size, 0, none⟩ 1 1 [.int .i64 t_17] rfl rfl (news_new y12) (one_cells rfl) (by unfold maxLen; omega) (by omega) n12 ?_; intro vt_19 wt_19 ot_19 gt_19 zt_19 yt_19; clear zt_19; obtain ⟨a14, q14, rfl, b13⟩ := own_push c14.out (HelpInt.iv_snoc _ _) rfl ot_19; have f14 := Lib.hid b13; have s13 := Lib.hid yt_19; have e10 := Lib.hid gt_19; clear ot_19 gt_19 b13 yt_19; refine stop_in ?_); refine stop_out ?_; have k11 := Lib.hid (v13.out.grown e10.out n12 (fun q hq => (d10.out.lt q hq).1)); clear n12; have n14 : Hid (Apart (some ⟨a14, 0, none⟩) _) := Lib.hid (apart_app (Apart.symm i10.out) (fun a_ ha_ => by cases ha_; exact cell_lt l12) s13.out); replace t13 := cell_below k11.out Ff2_0h.out; replace q13 := cell_below k11.out Ff2_1i0h.out; replace q12 := cell_below k11.out Ff2_1i1h.out; replace v12 := cell_below k11.out Ff2_1h.out; replace w12 := cell_other w12 e10.out (apart_old d10.out k10); replace z12 := cell_other z12 e10.out (apart_old d10.out k10); replace c13 := cell_other c13 e10.out (apart_old d10.out k10); replace r13 := cell_other r13 e10.out (apart_old d10.out k10); replace p13 := cell_other p13 e10.out (apart_old d10.out k10); replace x12 := cell_other x12 e10.out (apart_old d10.out k10); replace p12 := cell_other p12 e10.out (apart_old d10.out k10); replace w13 := cell_other w13 e10.out (apart_old d10.out k10); replace i13 := cell_other i13 e10.out (apart_old d10.out k10); replace l12 := cell_other l12 e10.out (Apart.symm i10.out); replace x13 := cell_other x13 e10.out (Apart.symm i10.out)
    replace a13 := cell_other a13 e10.out (Apart.symm i10.out); replace n13 := cell_other n13 e10.out (Apart.symm i10.out); replace o13 := cell_other o13 e10.out (Apart.symm i10.out); replace k13 := cell_other k13 e10.out (Apart.symm i10.out); replace d13 := cell_other d13 e10.out (Apart.symm i10.out); replace j13 := cell_other j13 e10.out (Apart.symm i10.out); replace r12 := cell_other r12 e10.out (Apart.symm i10.out); clear l10 o10 n10 m10 t10 e11 h11 f11 w10 r10 c11 j11 z10 g11 y10 q10 b11 a11 i11 s10 d11 v10; clear d10 s13 e10; replace H := app_hid H; go_wp2_with fail
    go_roundg m0
    case measure => omega
    case rel => exact ⟨k0 + 1, _, _, _, by omega, by go_num, rfl, H, k11, t13, q13, q12, v12, f14⟩
end Go.Proofs.Ytgbcdmlcmnaimaa.GiKeysWhereCoverIntiIdOfCoveriCoversVia2

namespace Go.Proofs.Ytgbcdmlcmnaimaa.GiCoversVia
open Go.RowKit
open Go.Proofs.Ytgbcdmlcmnaimaa.Rowed Go.Proofs.Ytgbcdmlcmnaimaa.Turn Go.Proofs.Ytgbcdmlcmnaimaa.Aid Go.Proofs.Ytgbcdmlcmnaimaa.GoP Go.Proofs.Ytgbcdmlcmnaimaa.GoM

def P (fuel : Nat) (mails : (List PMail.Mail)) (list : (List PCover.Cover)) (office : Int) : Option ((List Int) × Bool) :=
 Option.bind (GiIsTimetable.P mails) fun (t_5 : Bool) =>
 letK (!t_5) fun (t_6 : Bool) =>
 joinK (fun (t_11 : Bool) =>
 joinK (fun (t_16 : Bool) =>
 iteK t_16
 (some (([] : List Int), false))
 (Option.bind (GiKeysWhereCoverIntiIdOfCoveriCoversVia2.P fuel list mails mails office) fun (t_27 : (List Int)) =>
 some (t_27, true))) fun jt_16 => iteK t_11 (appK jt_16 true) (Option.bind (GiIsPostOffice.P office) fun (t_14 : Bool) =>
 letK (!t_14) fun (t_15 : Bool) =>
 appK jt_16 t_15)) fun jt_11 => iteK t_6 (appK jt_11 true) (Option.bind (GiAreCovers.P list) fun (t_9 : Bool) =>
 letK (!t_9) fun (t_10 : Bool) =>
 appK jt_11 t_10)

set_option maxRecDepth 100000 in
set_option maxHeartbeats 2000000 in
theorem C (fuel : Nat) (mails : (List PMail.Mail)) (list : (List PCover.Cover)) (office : Int) (A0 : Option Addr) (c0 : Nat) (A1 : Option Addr) (c1 : Nat)  (w : World) (M0 : Hid (Cells w 4 A0 mails.length (PMail.flat mails))) (N0 : Hid (mails.length ≤ 9223372036854775807)) (M1 : Hid (Cells w 9 A1 list.length (PCover.flat list))) (N1 : Hid (list.length ≤ 9223372036854775807))  {r0 : (List Int)} {r1 : Bool} (H : Hid (P fuel mails list office = some (r0, r1))) :
  Calls Try.prog 31 #[.slice A0 mails.length c0, .slice A1 list.length c1, .int .i64 office] w (fun e w' => ∃ A_r0 c_r0, e = .returned (.tuple #[.slice A_r0 r0.length c_r0, .bool r1]) ∧ w'.ownsRow w.heap.size 3 1 (.slice A_r0 r0.length c_r0) r0.length (HelpInt.iv r0) ∧ Below w.heap.size w w') := by
 have HB := Lib.hid (Below.refl w.heap.size w); unfold P at H; have N0o := N0.out; have N1o := N1.out
 go_enter Try.func31, Try.ntmps31
 obtain ⟨e10, z10⟩ : ∃ x, w.alloc (.cells #[.slice A0 mails.length c0] 25) = x := ⟨_, rfl⟩; have f11 : Below w.heap.size w e10 := (by rw [← z10]; exact (Below.refl _ _).alloc (Nat.le_refl _) _); have l11 := Lib.hid (Below.step HB.out f11); clear f11; have y10 : e10.cell? ⟨w.heap.size, 0, none⟩ = some (.slice A0 mails.length c0) := (by rw [← z10]; exact box_new _ _ _ 0 _ rfl); obtain ⟨a11, e11⟩ : ∃ x, e10.alloc (.cells #[.int .i64 office] 3) = x := ⟨_, rfl⟩; have w10 : Below e10.heap.size e10 a11 := (by rw [← e11]; exact (Below.refl _ _).alloc (Nat.le_refl _) _); have h11 := Lib.hid (Below.step l11.out w10); have b10 := cell_below w10 y10; clear w10; have a10 : a11.cell? ⟨e10.heap.size, 0, none⟩ = some (.int .i64 office) := (by rw [← e11]; exact box_new _ _ _ 0 _ rfl); replace H := bind_hid H; obtain ⟨t_5, qt_5, H⟩ := H; go_wp2_with fail; clear y10; go_at_call 47; refine (GiIsTimetable.C (mails) A0 c0 _   (Lib.hid (Cells.below M0.out h11.out)) N0 qt_5).mono ?_; rintro s11 wt_5 ⟨rfl, bt_5⟩; have n10 := Lib.hid (Below.step h11.out bt_5); replace b10 := cell_below bt_5 b10; replace a10 := cell_below bt_5 a10; clear bt_5
 cases t_5 with
 | false =>
  replace H := let_hid H; obtain ⟨t_6, ht_6, H⟩ := H; obtain rfl : t_6 = true := ht_6.symm; replace H := join_hid H; replace H := ite_t H; replace H := app_hid H; replace H := join_hid H; replace H := ite_t H; replace H := app_hid H; replace H := ite_t H; obtain ⟨f10, g10⟩ : ∃ x, wt_5.alloc (.cells #[] 3) = x := ⟨_, rfl⟩; have c10 : Below wt_5.heap.size wt_5 f10 := (by rw [← g10]; exact (Below.refl _ _).alloc (Nat.le_refl _) _); have i10 : Hid (f10.ownsRow w.heap.size 3 1 (.slice (some ⟨wt_5.heap.size, 0, none⟩) 0 0) 0 []) := Lib.hid (by rw [← g10]; exact own_empty n10.out.size); have c11 := Lib.hid (apart_box b10); have g11 := Lib.hid (apart_box a10); have k10 := Lib.hid (Below.step n10.out c10); have c12 := cell_below c10 b10; have z11 := cell_below c10 a10; clear c10; cases ret_hid H; go_wp2_with fail; go_ret2; exact ⟨(some ⟨wt_5.heap.size, 0, none⟩), 0, rfl, i10.out, k10.out⟩
 | true =>
  replace H := let_hid H; obtain ⟨t_6, ht_6, H⟩ := H; obtain rfl : t_6 = false := ht_6.symm; replace H := join_hid H; replace H := ite_f H; replace H := bind_hid H; obtain ⟨t_9, qt_9, H⟩ := H; go_wp2_with fail; go_at_call 26; refine (GiAreCovers.C (list) A1 c1 _   (Lib.hid (Cells.below M1.out n10.out)) N1 qt_9).mono ?_; rintro q11 wt_9 ⟨rfl, bt_9⟩; have v10 := Lib.hid (Below.step n10.out bt_9); replace b10 := cell_below bt_9 b10; replace a10 := cell_below bt_9 a10; clear bt_9
  cases t_9 with
  | false =>
   replace H := let_hid H; obtain ⟨t_10, x10, H⟩ := H; obtain rfl : t_10 = true := x10.symm; replace H := app_hid H; replace H := join_hid H; replace H := ite_t H; replace H := app_hid H; replace H := ite_t H; obtain ⟨f10, g10⟩ : ∃ x, wt_9.alloc (.cells #[] 3) = x := ⟨_, rfl⟩; have c10 : Below wt_9.heap.size wt_9 f10 := (by rw [← g10]; exact (Below.refl _ _).alloc (Nat.le_refl _) _); have i10 : Hid (f10.ownsRow w.heap.size 3 1 (.slice (some ⟨wt_9.heap.size, 0, none⟩) 0 0) 0 []) := Lib.hid (by rw [← g10]; exact own_empty v10.out.size); have c11 := Lib.hid (apart_box b10); have g11 := Lib.hid (apart_box a10); have k10 := Lib.hid (Below.step v10.out c10); have t11 := cell_below c10 b10; have a12 := cell_below c10 a10; clear c10; cases ret_hid H; go_wp2_with fail; go_ret2; exact ⟨(some ⟨wt_9.heap.size, 0, none⟩), 0, rfl, i10.out, k10.out⟩
  | true =>
   replace H := let_hid H; obtain ⟨t_10, x10, H⟩ := H; obtain rfl : t_10 = false := x10.symm; replace H := app_hid H; replace H := join_hid H; replace H := ite_f H; replace H := bind_hid H; obtain ⟨t_14, o11, H⟩ := H; go_wp2_with fail; go_at_call 61; refine (GiIsPostOffice.C (office)  _    o11).mono ?_; rintro r11 d10 ⟨rfl, r10⟩; have t10 := Lib.hid (Below.step v10.out r10); replace b10 := cell_below r10 b10; replace a10 := cell_below r10 a10; clear r10
   cases t_14 with
   | false =>
    replace H := let_hid H; obtain ⟨t_15, s10, H⟩ := H; obtain rfl : t_15 = true := s10.symm; replace H := app_hid H; replace H := ite_t H; obtain ⟨f10, g10⟩ : ∃ x, d10.alloc (.cells #[] 3) = x := ⟨_, rfl⟩; have c10 : Below d10.heap.size d10 f10 := (by rw [← g10]; exact (Below.refl _ _).alloc (Nat.le_refl _) _); have i10 : Hid (f10.ownsRow w.heap.size 3 1 (.slice (some ⟨d10.heap.size, 0, none⟩) 0 0) 0 []) := Lib.hid (by rw [← g10]; exact own_empty t10.out.size); have c11 := Lib.hid (apart_box b10); have g11 := Lib.hid (apart_box a10); have k10 := Lib.hid (Below.step t10.out c10); have y11 := cell_below c10 b10; have v11 := cell_below c10 a10; clear c10; cases ret_hid H; go_wp2_with fail; go_ret2; exact ⟨(some ⟨d10.heap.size, 0, none⟩), 0, rfl, i10.out, k10.out⟩
   | true =>
    replace H := let_hid H; obtain ⟨t_15, s10, H⟩ := H; obtain rfl : t_15 = false := s10.symm; replace H := app_hid H; replace H := ite_f H; obtain ⟨d11, b11⟩ : ∃ x, d10.alloc (.cells #[.func (.func 71) #[] #[.pointer (some ⟨w.heap.size, 0, none⟩), .pointer (some ⟨e10.heap.size, 0, none⟩)]] 82) = x := ⟨_, rfl⟩; have o10 : Below d10.heap.size d10 d11 := (by rw [← b11]; exact (Below.refl _ _).alloc (Nat.le_refl _) _); have m10 := Lib.hid (Below.step t10.out o10); have l10 := cell_below o10 b10; have q10 := cell_below o10 a10; clear o10; have p10 : d11.cell? ⟨d10.heap.size, 0, none⟩ = some (.func (.func 71) #[] #[.pointer (some ⟨w.heap.size, 0, none⟩), .pointer (some ⟨e10.heap.size, 0, none⟩)]) := (by rw [← b11]; exact box_new _ _ _ 0 _ rfl); replace H := bind_hid H; obtain ⟨t_27, k11, H⟩ := H; go_wp2_with fail; clear b10 a10; go_at_call 67; refine (GiKeysWhereCoverIntiIdOfCoveriCoversVia2.C fuel (list) (mails) (mails) (office) A1 c1 A0 c0 A0 c0 (w.heap.size) (d10.heap.size) (w.heap.size) (e10.heap.size) _   (Lib.hid (Cells.below M1.out m10.out)) N1 (Lib.hid (Cells.below M0.out m10.out)) N0 (Lib.hid (Cells.below M0.out m10.out)) N0 (Lib.hid l10) (Lib.hid p10) (Lib.hid l10) (Lib.hid q10) k11).mono ?_; rintro w11 x11 ⟨i11, n11, rfl, h10, j10⟩; have b12 := Lib.hid (apart_callbox h10 l10); have p11 := Lib.hid (apart_callbox h10 q10); have d12 := Lib.hid (apart_callbox h10 p10); have m11 := Lib.hid (own_lower h10 m10.out.size); clear h10; have j11 := Lib.hid (Below.step m10.out j10); replace l10 := cell_below j10 l10; replace q10 := cell_below j10 q10; replace p10 := cell_below j10 p10; clear j10; cases ret_hid H; go_wp2_with fail; go_ret2; exact ⟨i11, n11, rfl, m11.out, j11.out⟩
end Go.Proofs.Ytgbcdmlcmnaimaa.GiCoversVia

namespace Go.Proofs.Ytgbcdmlcmnaimaa.GsCoversVia
open Go.RowKit
open Go.Proofs.Ytgbcdmlcmnaimaa.Rowed Go.Proofs.Ytgbcdmlcmnaimaa.Turn Go.Proofs.Ytgbcdmlcmnaimaa.Aid Go.Proofs.Ytgbcdmlcmnaimaa.GoP Go.Proofs.Ytgbcdmlcmnaimaa.GoM

def l1 (mails : (List PMail.Mail)) (office : Int) (t_30a : (List Int)) (k1 : Nat) (s : Bool) (nx1 bk1 : Bool → Option ((List Int) × Bool)) : Option ((List Int) × Bool) :=
 letK s fun via_12l1 =>
 joinK (fun (t_54 : Bool) =>
 appK nx1 (t_54)) fun jt_54 => iteK via_12l1 (appK jt_54 true) (Option.bind (idx t_30a (k1 : Int)) fun (yt_47 : Int) =>
 Option.bind (idx mails yt_47) fun (yt_49 : PMail.Mail) =>
 unMail yt_49 fun (t_49_leave : Int) (t_49_from_ : Int) (t_49_to_ : Int) (t_49_arrive : Int) =>
 letK (t_49_to_ == office) fun (t_53 : Bool) =>
 appK jt_54 t_53)

def e1 (list : (List PCover.Cover)) (nx0 : ((List Int)) → Option ((List Int) × Bool)) (out_8l0 : (List Int)) (k0 : Nat) (s : Bool) : Option ((List Int) × Bool) :=
 letK s fun via_12l1 =>
 iteK via_12l1
 (Option.bind (idx list (k0 : Int)) fun (yt_63 : PCover.Cover) =>
 unCover yt_63 fun (t_63_id : Int) (t_63_day : Int) (t_63_zone : Int) (t_63_grams : Int) (t_63_paid : Int) (t_63_from_ : Int) (t_63_to_ : Int) (t_63_leave : Int) (t_63_arrive : Int) =>
 guardK (out_8l0.length ≤ 1099511627776) <|
 letK (out_8l0 ++ [t_63_id]) fun (t_67 : (List Int)) =>
 appK nx0 (t_67))
 (appK nx0 (out_8l0))

def l0 (mails : (List PMail.Mail)) (list : (List PCover.Cover)) (office : Int) (fuel : Nat) (k0 : Nat) (s : (List Int)) (nx0 bk0 : (List Int) → Option ((List Int) × Bool)) : Option ((List Int) × Bool) :=
 letK s fun out_8l0 =>
 Option.bind (idx list (k0 : Int)) fun (yt_28 : PCover.Cover) =>
 unCover yt_28 fun (t_28_id : Int) (t_28_day : Int) (t_28_zone : Int) (t_28_grams : Int) (t_28_paid : Int) (t_28_from_ : Int) (t_28_to_ : Int) (t_28_leave : Int) (t_28_arrive : Int) =>
 bind2 (GsL10Route.P fuel mails (PCover.Cover.mk t_28_id t_28_day t_28_zone t_28_grams t_28_paid t_28_from_ t_28_to_ t_28_leave t_28_arrive)) fun (t_30a : (List Int)) (t_30b : Bool) =>
 cntK (l1 mails office t_30a) (t_30a.length) 0 (false) (e1 list nx0 out_8l0 k0)

def e0  (s : (List Int)) : Option ((List Int) × Bool) :=
 letK s fun out_8l0 =>
 some (out_8l0, true)

def P (fuel : Nat) (mails : (List PMail.Mail)) (list : (List PCover.Cover)) (office : Int) : Option ((List Int) × Bool) :=
 Option.bind (GsL9Good.P mails) fun (t_5 : Bool) =>
 letK (!t_5) fun (t_6 : Bool) =>
 joinK (fun (t_11 : Bool) =>
 joinK (fun (t_16 : Bool) =>
 iteK t_16
 (some (([] : List Int), false))
 (cntK (l0 mails list office fuel) (list.length) 0 (([] : List Int)) (e0 ))) fun jt_16 => iteK t_11 (appK jt_16 true) (Option.bind (GsL9Office.P office) fun (t_14 : Bool) =>
 letK (!t_14) fun (t_15 : Bool) =>
 appK jt_16 t_15)) fun jt_11 => iteK t_6 (appK jt_11 true) (Option.bind (GsL10Good.P list) fun (t_9 : Bool) =>
 letK (!t_9) fun (t_10 : Bool) =>
 appK jt_11 t_10)

set_option maxRecDepth 100000 in
set_option maxHeartbeats 2000000 in
theorem C (fuel : Nat) (mails : (List PMail.Mail)) (list : (List PCover.Cover)) (office : Int) (A0 : Option Addr) (c0 : Nat) (A1 : Option Addr) (c1 : Nat)  (w : World) (M0 : Hid (Cells w 4 A0 mails.length (PMail.flat mails))) (N0 : Hid (mails.length ≤ 9223372036854775807)) (M1 : Hid (Cells w 9 A1 list.length (PCover.flat list))) (N1 : Hid (list.length ≤ 9223372036854775807))  {r0 : (List Int)} {r1 : Bool} (H : Hid (P fuel mails list office = some (r0, r1))) :
  Calls Try.prog 32 #[.slice A0 mails.length c0, .slice A1 list.length c1, .int .i64 office] w (fun e w' => ∃ A_r0 c_r0, e = .returned (.tuple #[.slice A_r0 r0.length c_r0, .bool r1]) ∧ w'.ownsRow w.heap.size 3 1 (.slice A_r0 r0.length c_r0) r0.length (HelpInt.iv r0) ∧ Below w.heap.size w w') := by
 have HB := Lib.hid (Below.refl w.heap.size w); unfold P at H; have N0o := N0.out; have N1o := N1.out; obtain ⟨i0_3, hi_3, v12, w13, l13⟩ := Aid.info_parts (P := Try.prog) (T := 3) (z := .int .i64 0) (s := 1) (b := 8) (by kernel_rfl)
 go_enter Try.func32, Try.ntmps32
 obtain ⟨f12, i12⟩ : ∃ x, w.alloc (.cells #[] 3) = x := ⟨_, rfl⟩; have x11 : Below w.heap.size w f12 := (by rw [← i12]; exact (Below.refl _ _).alloc (Nat.le_refl _) _); have Ot_2 : Hid (f12.ownsRow w.heap.size 3 1 (.slice (some ⟨w.heap.size, 0, none⟩) 0 0) 0 []) := Lib.hid (by rw [← i12]; exact own_empty HB.out.size); have p12 := Lib.hid (Below.step HB.out x11); clear x11; replace H := bind_hid H; obtain ⟨t_5, qt_5, H⟩ := H; go_wp2_with fail; go_at_call 40; refine (GsL9Good.C (mails) A0 c0 _   (Lib.hid (Cells.below M0.out p12.out)) N0 qt_5).mono ?_; rintro r15 wt_5 ⟨rfl, bt_5⟩; have m11 := Lib.hid (Below.step p12.out bt_5); replace Ot_2 := Lib.hid (own_below Ot_2.out bt_5); clear bt_5
 cases t_5 with
 | false =>
  replace H := let_hid H; obtain ⟨t_6, ht_6, H⟩ := H; obtain rfl : t_6 = true := ht_6.symm; replace H := join_hid H; replace H := ite_t H; replace H := app_hid H; replace H := join_hid H; replace H := ite_t H; replace H := app_hid H; replace H := ite_t H; cases ret_hid H; go_wp2_with fail; go_ret2; exact ⟨(some ⟨w.heap.size, 0, none⟩), 0, rfl, Ot_2.out, m11.out⟩
 | true =>
  replace H := let_hid H; obtain ⟨t_6, ht_6, H⟩ := H; obtain rfl : t_6 = false := ht_6.symm; replace H := join_hid H; replace H := ite_f H; replace H := bind_hid H; obtain ⟨t_9, qt_9, H⟩ := H; go_wp2_with fail; go_at_call 69; refine (GsL10Good.C (list) A1 c1 _   (Lib.hid (Cells.below M1.out m11.out)) N1 qt_9).mono ?_; rintro x14 wt_9 ⟨rfl, bt_9⟩; have t11 := Lib.hid (Below.step m11.out bt_9); replace Ot_2 := Lib.hid (own_below Ot_2.out bt_9); clear bt_9
  cases t_9 with
  | false =>
   replace H := let_hid H; obtain ⟨t_10, j11, H⟩ := H; obtain rfl : t_10 = true := j11.symm; replace H := app_hid H; replace H := join_hid H; replace H := ite_t H; replace H := app_hid H; replace H := ite_t H; cases ret_hid H; go_wp2_with fail; go_ret2; exact ⟨(some ⟨w.heap.size, 0, none⟩), 0, rfl, Ot_2.out, t11.out⟩
  | true =>
   replace H := let_hid H; obtain ⟨t_10, j11, H⟩ := H; obtain rfl : t_10 = false := j11.symm; replace H := app_hid H; replace H := join_hid H; replace H := ite_f H; replace H := bind_hid H; obtain ⟨t_14, p13, H⟩ := H; go_wp2_with fail; go_at_call 74; refine (GsL9Office.C (office)  _    p13).mono ?_; rintro x15 s15 ⟨rfl, k11⟩; have r11 := Lib.hid (Below.step t11.out k11); replace Ot_2 := Lib.hid (own_below Ot_2.out k11); clear k11
   cases t_14 with
   | false =>
    replace H := let_hid H; obtain ⟨t_15, i11, H⟩ := H; obtain rfl : t_15 = true := i11.symm; replace H := app_hid H; replace H := ite_t H; cases ret_hid H; go_wp2_with fail; go_ret2; exact ⟨(some ⟨w.heap.size, 0, none⟩), 0, rfl, Ot_2.out, r11.out⟩
   | true =>
    replace H := let_hid H; obtain ⟨t_15, i11, H⟩ := H; obtain rfl : t_15 = false := i11.symm; replace H := app_hid H; replace H := ite_f H; go_wp2_with fail; go_loopg [9, 8] (list.length) (fun m_ v9_ v8_ wr => ∃ (k0 : Nat) (i10 : (List Int)) (o10 : Option Addr) (l10 : Nat), k0 + m_ = list.length ∧ v9_ = .int .i64 (k0 : Int) ∧ v8_ = .slice o10 i10.length l10 ∧ Hid (cntK (l0 mails list office fuel) m_ k0 (i10) (e0 ) = some (r0, r1)) ∧ Hid (Below w.heap.size w wr) ∧ Hid (wr.ownsRow w.heap.size 3 1 (.slice o10 i10.length l10) i10.length (HelpInt.iv i10)))
    case atStart => exact ⟨0, _, _, _, by omega, rfl, rfl, H, r11, Ot_2⟩
    case round =>
     obtain ⟨k0, i10, o10, l10, hkm0, rfl, rfl, H, e10, a10⟩ := hrel; rename World => wr0
     cases gk with
     | zero =>
      obtain rfl : k0 = list.length := (by omega); have hc0 : decide (((list.length : Nat) : Int) < ((list.length : Nat) : Int)) = false := (by simp); replace H := cnt_zero H; unfold e0 at H; replace H := let_hid H; obtain ⟨_, rfl, H⟩ := H; cases ret_hid H; go_wp2_with fail; go_ret2; exact ⟨o10, l10, rfl, a10.out, e10.out⟩
     | succ m0 =>
      have hlt0 : k0 < list.length := (by omega); have hc0 : decide ((k0 : Int) < ((list.length : Nat) : Int)) = true := (by simp; omega); replace H := cnt_succ H; unfold l0 at H; replace H := let_hid H; obtain ⟨_, rfl, H⟩ := H; replace H := idx_hid H; obtain ⟨h14, s13, c13, j14, y12, H⟩ := H; obtain rfl : k0 = h14 := (by omega); clear c13; obtain ⟨j13, a14, r13, q13, e13, i13, d14, e14, x12⟩ := s13; replace H := unCover_hid H; obtain ⟨k15, g15, e16, l14, m12, m10, t10, b11, x10, w10, g11, p10, e11, s10⟩ := OCover.at_ M1.out j14; obtain rfl := Option.some.inj (y12.out.symm.trans m12); subst l14; have v15 := cell_lt m10; replace m10 := cell_below e10.out m10; replace t10 := cell_below e10.out t10; replace b11 := cell_below e10.out b11; replace x10 := cell_below e10.out x10; replace w10 := cell_below e10.out w10; replace g11 := cell_below e10.out g11; replace p10 := cell_below e10.out p10; replace e11 := cell_below e10.out e11; replace s10 := cell_below e10.out s10; clear m12; have t14 : (0 : Int) ≤ (k0 : Int) := (by omega); have n15 : (k0 : Int) < ((list.length : Nat) : Int) := (by omega); have s14 : ((k0 : Int)).toNat = k0 := (by omega); replace H := bind2_hid H; obtain ⟨d10, r14, h13, H⟩ := H; go_wp2_with fail; go_at_call 50; refine (GsL10Route.C fuel (mails) ((PCover.Cover.mk j13 a14 r13 q13 e13 i13 d14 e14 x12)) A0 c0 _   (Lib.hid (Cells.below M0.out e10.out)) N0 h13).mono ?_; rintro o16 z15 ⟨z13, n13, rfl, l11, h10⟩; have g12 := Lib.hid (apart_call l11 a10.out); have g10 := Lib.hid (own_lower l11 e10.out.size); clear l11; have g14 := Lib.hid (Below.step e10.out h10); replace m10 := cell_below h10 m10; replace t10 := cell_below h10 t10; replace b11 := cell_below h10 b11; replace x10 := cell_below h10 x10; replace w10 := cell_below h10 w10; replace g11 := cell_below h10 g11; replace p10 := cell_below h10 p10; replace e11 := cell_below h10 e11; replace s10 := cell_below h10 s10; replace a10 := Lib.hid (own_below a10.out h10); clear h10; have hb_1 : d10.length ≤ 9223372036854775807 := own_max g10.out; go_wp2_with fail; go_loopg [13, 12] (d10.length) (fun m_ v13_ v12_ wr => ∃ (k1 : Nat) (k10 : Bool), k1 + m_ = d10.length ∧ v13_ = .int .i64 (k1 : Int) ∧ v12_ = .bool k10 ∧ Hid (cntK (l1 mails office d10) m_ k1 (k10) (e1 list (fun s' => cntK (l0 mails list office fuel) m0 (k0 + 1) s' (e0 )) i10 k0) = some (r0, r1)) ∧ Hid (Below w.heap.size w wr) ∧ Hid (wr.ownsRow w.heap.size 3 1 (.slice o10 i10.length l10) i10.length (HelpInt.iv i10)) ∧ Hid (wr.ownsRow w.heap.size 3 1 (.slice z13 d10.length n13) d10.length (HelpInt.iv d10)))
      case atStart => exact ⟨0, _, by omega, rfl, rfl, H, g14, a10, g10⟩
      case round =>
       obtain ⟨k1, k10, hkm1, rfl, rfl, H, b10, a10, g10⟩ := hrel; rename World => wr1
       cases gk with
       | zero =>
        obtain rfl : k1 = d10.length := (by omega); have hc1 : decide (((d10.length : Nat) : Int) < ((d10.length : Nat) : Int)) = false := (by simp); replace H := cnt_zero H; unfold e1 at H; replace H := let_hid H; obtain ⟨_, rfl, H⟩ := H
        cases k10 with
        | false =>
         replace H := ite_f H; replace H := app_hid H; go_wp2_with fail
         go_roundg m0
         case measure => omega
         case rel => exact ⟨k0 + 1, _, _, _, by omega, by go_num, rfl, H, b10, a10⟩
        | true =>
         replace H := ite_t H; replace H := idx_hid H; obtain ⟨z12, i14, f14, k13, g13, H⟩ := H; obtain rfl : k0 = z12 := (by omega); clear f14; obtain ⟨k12, w15, e15, t15, k16, b15, j15, v14, f15⟩ := i14; replace H := unCover_hid H; obtain ⟨p15, c15, m15, r12, a12, n10, c11, a11, y10, d11, q10, r10, z10, v10⟩ := OCover.at_ M1.out k13; obtain rfl := Option.some.inj (g13.out.symm.trans a12); simp only [Option.some.injEq, Addr.mk.injEq] at r12; obtain ⟨rfl, rfl, _⟩ := r12; have j10 := cell_lt n10; replace n10 := cell_below b10.out n10; replace c11 := cell_below b10.out c11; replace a11 := cell_below b10.out a11; replace y10 := cell_below b10.out y10; replace d11 := cell_below b10.out d11; replace q10 := cell_below b10.out q10; replace r10 := cell_below b10.out r10; replace z10 := cell_below b10.out z10; replace v10 := cell_below b10.out v10; clear a12; have f16 : (0 : Int) ≤ (k0 : Int) := (by omega); have w14 : (k0 : Int) < ((list.length : Nat) : Int) := (by omega); have d15 : ((k0 : Int)).toNat = k0 := (by omega); obtain ⟨t13, v11⟩ : ∃ x, wr1.alloc (.cells #[.int .i64 k12] 3) = x := ⟨_, rfl⟩; have c10 : Below wr1.heap.size wr1 t13 := (by rw [← v11]; exact (Below.refl _ _).alloc (Nat.le_refl _) _); have s11 := Lib.hid (Below.step b10.out c10); have o11 := cell_below c10 n10; have e12 := cell_below c10 c11; have q12 := cell_below c10 a11; have p11 := cell_below c10 y10; have n12 := cell_below c10 d11; have d12 := cell_below c10 q10; have q11 := cell_below c10 r10; have s12 := cell_below c10 z10; have z11 := cell_below c10 v10; replace a10 := Lib.hid (own_below a10.out c10); replace g10 := Lib.hid (own_below g10.out c10); clear c10; replace H := guard_hid H; obtain ⟨n14, H⟩ := H; replace H := let_hid H; obtain ⟨t_67, t12, H⟩ := H; have c14 := Lib.hid t12; clear t12; have n11 := s11.out.size; go_wp2_with (at_builtin; refine wpList_append_own_at _ rfl _ _ 33 rfl w.heap.size 3 i0_3 (.int .i64 0) 1 8 Try.underlying33 hi_3 v12 w13 l13 rfl (by decide) _ _ _ rfl a10.out ⟨wr1.heap.size, 0, none⟩ 1 1 [.int .i64 k12] rfl rfl (news_new v11) (one_cells rfl) (by unfold maxLen; omega) (by omega) n11 ?_; intro vt_67 wt_67 ot_67 gt_67 zt_67 yt_67; clear zt_67; obtain ⟨v13, p14, rfl, h12⟩ := own_push c14.out (HelpInt.iv_snoc _ _) rfl ot_67; have m14 := Lib.hid h12; have y11 := Lib.hid yt_67; have f10 := Lib.hid gt_67; clear ot_67 gt_67 h12 yt_67; refine stop_in ?_); refine stop_out ?_; have b13 := Lib.hid (s11.out.grown f10.out n11 (fun q hq => (a10.out.lt q hq).1)); clear n11; have c16 : Hid (Apart (some ⟨v13, 0, none⟩) _) := Lib.hid (apart_app (Apart.symm g12.out) (fun a_ ha_ => (own_lt g10.out a_ ha_).2) y11.out); replace o11 := cell_other o11 f10.out (apart_old a10.out j10); replace e12 := cell_other e12 f10.out (apart_old a10.out j10); replace q12 := cell_other q12 f10.out (apart_old a10.out j10); replace p11 := cell_other p11 f10.out (apart_old a10.out j10); replace n12 := cell_other n12 f10.out (apart_old a10.out j10); replace d12 := cell_other d12 f10.out (apart_old a10.out j10); replace q11 := cell_other q11 f10.out (apart_old a10.out j10); replace s12 := cell_other s12 f10.out (apart_old a10.out j10); replace z11 := cell_other z11 f10.out (apart_old a10.out j10); replace g10 := Lib.hid (own_other g10.out f10.out (Apart.symm g12.out)); clear n10 c11 a11 y10 d11 q10 r10 z10 v10; clear a10 y11 f10; replace H := app_hid H; go_wp2_with fail
         go_roundg m0
         case measure => omega
         case rel => exact ⟨k0 + 1, _, _, _, by omega, by go_num, rfl, H, b13, m14⟩
       | succ m1 =>
        have hlt1 : k1 < d10.length := (by omega); have hc1 : decide ((k1 : Int) < ((d10.length : Nat) : Int)) = true := (by simp; omega); replace H := cnt_succ H; unfold l1 at H; replace H := let_hid H; obtain ⟨_, rfl, H⟩ := H; replace H := join_hid H
        cases k10 with
        | false =>
         replace H := ite_f H; replace H := idx_hid H; obtain ⟨x13, g16, y13, y14, o13, H⟩ := H; obtain rfl : k1 = x13 := (by omega); clear y13; obtain ⟨y15, d13⟩ := own_some g10.out (by omega); subst d13; obtain ⟨i15, l16, z14, w11, j12, b14⟩ := HelpInt.Ints.at_ (own_cells g10.out) (k := k1) (by omega); obtain rfl := Option.some.inj (o13.out.symm.trans j12); simp only [Option.some.injEq, Addr.mk.injEq] at w11; obtain ⟨rfl, rfl, _⟩ := w11; clear j12; simp only [Nat.zero_add] at b14; have b16 : (0 : Int) ≤ (k1 : Int) := (by omega); have h15 : (k1 : Int) < ((d10.length : Nat) : Int) := (by omega); have a15 : ((k1 : Int)).toNat = k1 := (by omega); replace H := idx_hid H; obtain ⟨f11, f13, a13, w12, k14, H⟩ := H; subst a13; obtain ⟨a16, o14, i16, q15⟩ := f13; replace H := unMail_hid H; obtain ⟨l15, q14, m16, m13, o12, h11, c12, b12, l12⟩ := OMail.at_ M0.out w12; obtain rfl := Option.some.inj (k14.out.symm.trans o12); subst m13; have j16 := cell_lt h11; replace h11 := cell_below b10.out h11; replace c12 := cell_below b10.out c12; replace b12 := cell_below b10.out b12; replace l12 := cell_below b10.out l12; clear o12; have h16 : (0 : Int) ≤ (f11 : Int) := (by omega); have d16 : (f11 : Int) < ((mails.length : Nat) : Int) := (by omega); have o15 : ((f11 : Int)).toNat = f11 := (by omega); replace H := let_hid H; obtain ⟨t_53, n16, H⟩ := H; replace H := app_hid H; replace H := app_hid H; go_wp2_with fail
         go_roundg m1
         case measure => omega
         case rel => exact ⟨k1 + 1, _, by omega, by go_num, rfl, H, b10, a10, g10⟩
        | true =>
         replace H := ite_t H; replace H := app_hid H; replace H := app_hid H; go_wp2_with fail
         go_roundg m1
         case measure => omega
         case rel => exact ⟨k1 + 1, _, by omega, by go_num, rfl, H, b10, a10, g10⟩
end Go.Proofs.Ytgbcdmlcmnaimaa.GsCoversVia

