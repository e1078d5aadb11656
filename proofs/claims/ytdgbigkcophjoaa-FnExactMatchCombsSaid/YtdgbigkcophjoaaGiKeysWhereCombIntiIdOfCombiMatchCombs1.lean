/- loop.example/g01062/impl.keysWhere[loop.example/g01062/impl.Comb,int] as a plain function, and the contract of the program's: where the plain one has an answer, the program has it. Conditions: slices read as lists. -/
import Derived.Test.YtdgbigkcophjoaaChecked
import Derived.Test.YtdgbigkcophjoaaGoM
import Derived.Test.YtdgbigkcophjoaaGoRComb
import Derived.Test.YtdgbigkcophjoaaHelpInt
import Derived.Test.YtdgbigkcophjoaaOComb
import Derived.Test.YtdgbigkcophjoaaGiMatchCombs1
import Derived.Test.YtdgbigkcophjoaaGiIdOfComb
import Derived.WalkKit
import Derived.WalkSpells
import Derived.WalkLawsBesides
import Derived.BigQuiet
import Derived.OwnWalk
import Derived.Deep.LoopGhost
import Derived.Deep.QuietTactic
import Derived.IntWalk
import Derived.Lib.QuietBelow
namespace Go.Proofs.Ytdgbigkcophjoaa.GiKeysWhereCombIntiIdOfCombiMatchCombs1
set_option linter.unusedVariables false
set_option linter.unusedSimpArgs false
open Go.RowKit
open Go.Proofs.Ytdgbigkcophjoaa.Rowed Go.Proofs.Ytdgbigkcophjoaa.Turn Go.Proofs.Ytdgbigkcophjoaa.Aid Go.Proofs.Ytdgbigkcophjoaa.GoP Go.Proofs.Ytdgbigkcophjoaa.GoM

def l0 (list : (List Go.Proofs.Ytdgbigkcophjoaa.PComb.Comb)) (hf2_0 : Int) (hf2_1 : Int) (hf2_2 : Int) (k0 : Nat) (s : (List Int)) (nx0 bk0 : (List Int) → Option ((List Int))) : Option ((List Int)) :=
  letK s fun keys_7l0 =>
  Option.bind (idx list (k0 : Int)) fun (yt_7 : Go.Proofs.Ytdgbigkcophjoaa.PComb.Comb) =>
  unComb yt_7 fun (t_7_id : Int) (t_7_wide : Int) (t_7_high : Int) (t_7_line : Bool) =>
  Option.bind (Go.Proofs.Ytdgbigkcophjoaa.GiMatchCombs1.P (Go.Proofs.Ytdgbigkcophjoaa.PComb.Comb.mk t_7_id t_7_wide t_7_high t_7_line) hf2_0 hf2_1 hf2_2) fun (t_13 : Bool) =>
  iteK t_13
  (Option.bind (Go.Proofs.Ytdgbigkcophjoaa.GiIdOfComb.P (Go.Proofs.Ytdgbigkcophjoaa.PComb.Comb.mk t_7_id t_7_wide t_7_high t_7_line)) fun (t_17 : Int) =>
  guardK (keys_7l0.length ≤ 1099511627776) <|
  letK (keys_7l0 ++ [t_17]) fun (t_19 : (List Int)) =>
  appK nx0 (t_19))
  (appK nx0 (keys_7l0))

def e0  (s : (List Int)) : Option ((List Int)) :=
  letK s fun keys_7l0 =>
  some keys_7l0

def P (list : (List Go.Proofs.Ytdgbigkcophjoaa.PComb.Comb)) (hf2_0 : Int) (hf2_1 : Int) (hf2_2 : Int) : Option ((List Int)) :=
  cntK (l0 list hf2_0 hf2_1 hf2_2) (list.length) 0 (([] : List Int)) (e0 )

set_option maxRecDepth 100000 in
set_option maxHeartbeats 2000000 in
theorem C (list : (List Go.Proofs.Ytdgbigkcophjoaa.PComb.Comb)) (hf2_0 : Int) (hf2_1 : Int) (hf2_2 : Int) (A0 : Option Addr) (c0 : Nat) (gf2_0 : Nat) (gf2_1 : Nat) (gf2_2 : Nat) (w : World) (M0 : Hid (Cells w 4 A0 list.length (Go.Proofs.Ytdgbigkcophjoaa.PComb.flat list))) (N0 : Hid (list.length ≤ 9223372036854775807)) (Ff2_0h : Hid (w.cell? ⟨gf2_0, 0, none⟩ = some (.int .i64 hf2_0))) (Ff2_1h : Hid (w.cell? ⟨gf2_1, 0, none⟩ = some (.int .i64 hf2_1))) (Ff2_2h : Hid (w.cell? ⟨gf2_2, 0, none⟩ = some (.int .i64 hf2_2))) {r : (List Int)} (H : Hid (P list hf2_0 hf2_1 hf2_2 = some r)) :
    Calls Try.prog 99 #[.slice A0 list.length c0, .func (.func 94) #[] #[], .func (.func 100) #[] #[.pointer (some ⟨gf2_0, 0, none⟩), .pointer (some ⟨gf2_1, 0, none⟩), .pointer (some ⟨gf2_2, 0, none⟩)]] w (fun e w' => ∃ A_r c_r, e = .returned (.slice A_r r.length c_r) ∧ w'.ownsRow w.heap.size 3 1 (.slice A_r r.length c_r) r.length (Go.Proofs.Ytdgbigkcophjoaa.HelpInt.iv r) ∧ Below w.heap.size w w') := by
  have HB := Lib.hid (Below.refl w.heap.size w)
  unfold P at H
  have N0o := N0.out
  have Ff2_0 := Ff2_0h.out
  have Ff2_1 := Ff2_1h.out
  have Ff2_2 := Ff2_2h.out
  obtain ⟨i0_3, hi_3, hz0_3, hz1_3, hz2_3⟩ := Aid.info_parts (P := Try.prog) (T := 3) (z := .int .i64 0) (s := 1) (b := 8) (by kernel_rfl)
  go_enter Try.func99, Try.ntmps99
  obtain ⟨w_t_1, hw_t_1⟩ : ∃ x, w.alloc (.cells #[] 3) = x := ⟨_, rfl⟩
  have bw_t_1 : Below w.heap.size w w_t_1 := by rw [← hw_t_1]; exact (Below.refl _ _).alloc (Nat.le_refl _) _
  have Ot_1 : Hid (w_t_1.ownsRow w.heap.size 3 1 (.slice (some ⟨w.heap.size, 0, none⟩) 0 0) 0 []) := Lib.hid (by rw [← hw_t_1]; exact own_empty HB.out.size)
  have HBw_t_1 := Lib.hid (Below.step HB.out bw_t_1)
  have Ff2_0__475 := cell_below bw_t_1 Ff2_0
  have Ff2_1__476 := cell_below bw_t_1 Ff2_1
  have Ff2_2__477 := cell_below bw_t_1 Ff2_2
  clear bw_t_1
  go_wp2_with fail
  clear Ff2_0 Ff2_1 Ff2_2
  go_loopg [13, 7] (list.length) (fun m_ v13_ v7_ wr => ∃ (k0 : Nat) (keys_7l0 : (List Int)) (Akeys_7l0 : Option Addr) (ckeys_7l0 : Nat), k0 + m_ = list.length ∧ v13_ = .int .i64 (k0 : Int) ∧ v7_ = .slice Akeys_7l0 keys_7l0.length ckeys_7l0 ∧ Hid (cntK (l0 list hf2_0 hf2_1 hf2_2) m_ k0 (keys_7l0) (e0 ) = some r) ∧ Hid (Below w.heap.size w wr) ∧ wr.cell? ⟨gf2_0, 0, none⟩ = some (.int .i64 hf2_0) ∧ wr.cell? ⟨gf2_1, 0, none⟩ = some (.int .i64 hf2_1) ∧ wr.cell? ⟨gf2_2, 0, none⟩ = some (.int .i64 hf2_2) ∧ Hid (wr.ownsRow w.heap.size 3 1 (.slice Akeys_7l0 keys_7l0.length ckeys_7l0) keys_7l0.length (Go.Proofs.Ytdgbigkcophjoaa.HelpInt.iv keys_7l0)))
  case atStart => exact ⟨0, _, _, _, by omega, rfl, rfl, H, HBw_t_1, Ff2_0__475, Ff2_1__476, Ff2_2__477, Ot_1⟩
  case round =>
    obtain ⟨k0, keys_7l0, Akeys_7l0, ckeys_7l0, hkm0, rfl, rfl, H, HBwr0, Ff2_0__475, Ff2_1__476, Ff2_2__477, Okeys_7l0⟩ := hrel
    rename World => wr0
    cases gk with
    | zero =>
      obtain rfl : k0 = list.length := by omega
      have hc0 : decide (((list.length : Nat) : Int) < ((list.length : Nat) : Int)) = false := by simp
      replace H := cnt_zero H
      unfold e0 at H
      replace H := let_hid H
      obtain ⟨_, rfl, H⟩ := H
      obtain rfl := ret_hid H
      go_wp2_with fail
      go_ret
      exact ⟨Akeys_7l0, ckeys_7l0, rfl, Okeys_7l0.out, HBwr0.out⟩
    | succ m0 =>
      have hlt0 : k0 < list.length := by omega
      have hc0 : decide ((k0 : Int) < ((list.length : Nat) : Int)) = true := by simp; omega
      replace H := cnt_succ H
      unfold l0 at H
      replace H := let_hid H
      obtain ⟨_, rfl, H⟩ := H
      replace H := idx_hid H
      obtain ⟨nt_7, yt_7, et_7, lt_7, gt_7, H⟩ := H
      obtain rfl : k0 = nt_7 := by omega
      clear et_7
      obtain ⟨t_7_id, t_7_wide, t_7_high, t_7_line⟩ := yt_7
      replace H := unComb_hid H
      obtain ⟨ab_t_7, ao_t_7, zt_7, At_7, z_t_7, ct_7_0, ct_7_1, ct_7_2, ct_7_3⟩ := Go.Proofs.Ytdgbigkcophjoaa.OComb.at_ M0.out lt_7
      obtain rfl := Option.some.inj (gt_7.out.symm.trans z_t_7)
      subst At_7
      have ltt_7 := cell_lt ct_7_0
      replace ct_7_0 := cell_below HBwr0.out ct_7_0
      replace ct_7_1 := cell_below HBwr0.out ct_7_1
      replace ct_7_2 := cell_below HBwr0.out ct_7_2
      replace ct_7_3 := cell_below HBwr0.out ct_7_3
      clear z_t_7
      have b0t_7 : (0 : Int) ≤ (k0 : Int) := by omega
      have b1t_7 : (k0 : Int) < ((list.length : Nat) : Int) := by omega
      have b2t_7 : ((k0 : Int)).toNat = k0 := by omega
      obtain ⟨w_e_9, hw_e_9⟩ : ∃ x, wr0.alloc (.cells #[.int .i64 t_7_id, .int .i64 t_7_wide, .int .i64 t_7_high, .bool t_7_line] 101) = x := ⟨_, rfl⟩
      have bw_e_9 : Below wr0.heap.size wr0 w_e_9 := by rw [← hw_e_9]; exact (Below.refl _ _).alloc (Nat.le_refl _) _
      have De_9_keys_7l0 := Lib.hid (apart_fresh Okeys_7l0.out)
      have HBw_e_9 := Lib.hid (Below.step HBwr0.out bw_e_9)
      have Ff2_0__478 := cell_below bw_e_9 Ff2_0__475
      have Ff2_1__479 := cell_below bw_e_9 Ff2_1__476
      have Ff2_2__480 := cell_below bw_e_9 Ff2_2__477
      have ct_7_0__481 := cell_below bw_e_9 ct_7_0
      have ct_7_1__482 := cell_below bw_e_9 ct_7_1
      have ct_7_2__483 := cell_below bw_e_9 ct_7_2
      have ct_7_3__484 := cell_below bw_e_9 ct_7_3
      replace Okeys_7l0 := Lib.hid (own_below Okeys_7l0.out bw_e_9)
      clear bw_e_9
      have ke_9_0 : w_e_9.cell? ⟨wr0.heap.size, 0, none⟩ = some (.int .i64 t_7_id) := by rw [← hw_e_9]; exact box_new _ _ _ 0 _ rfl
      have ke_9_1 : w_e_9.cell? ⟨wr0.heap.size, 1, none⟩ = some (.int .i64 t_7_wide) := by rw [← hw_e_9]; exact box_new _ _ _ 1 _ rfl
      have ke_9_2 : w_e_9.cell? ⟨wr0.heap.size, 2, none⟩ = some (.int .i64 t_7_high) := by rw [← hw_e_9]; exact box_new _ _ _ 2 _ rfl
      have ke_9_3 : w_e_9.cell? ⟨wr0.heap.size, 3, none⟩ = some (.bool t_7_line) := by rw [← hw_e_9]; exact box_new _ _ _ 3 _ rfl
      replace H := bind_hid H
      obtain ⟨t_13, qt_13, H⟩ := H
      go_wp2_with fail
      clear Ff2_0__475 Ff2_1__476 Ff2_2__477 ct_7_0 ct_7_1 ct_7_2 ct_7_3
      go_at_call 100
      refine (Go.Proofs.Ytdgbigkcophjoaa.GiMatchCombs1.C ((Go.Proofs.Ytdgbigkcophjoaa.PComb.Comb.mk t_7_id t_7_wide t_7_high t_7_line)) (hf2_0) (hf2_1) (hf2_2) (gf2_0) (gf2_1) (gf2_2) _   (Lib.hid Ff2_0__478) (Lib.hid Ff2_1__479) (Lib.hid Ff2_2__480) qt_13).mono ?_
      rintro e_t_13 wt_13 ⟨rfl, bt_13⟩
      have HBwt_13 := Lib.hid (Below.step HBw_e_9.out bt_13)
      replace Ff2_0__478 := cell_below bt_13 Ff2_0__478
      replace Ff2_1__479 := cell_below bt_13 Ff2_1__479
      replace Ff2_2__480 := cell_below bt_13 Ff2_2__480
      replace ct_7_0__481 := cell_below bt_13 ct_7_0__481
      replace ct_7_1__482 := cell_below bt_13 ct_7_1__482
      replace ct_7_2__483 := cell_below bt_13 ct_7_2__483
      replace ct_7_3__484 := cell_below bt_13 ct_7_3__484
      replace ke_9_0 := cell_below bt_13 ke_9_0
      replace ke_9_1 := cell_below bt_13 ke_9_1
      replace ke_9_2 := cell_below bt_13 ke_9_2
      replace ke_9_3 := cell_below bt_13 ke_9_3
      replace Okeys_7l0 := Lib.hid (own_below Okeys_7l0.out bt_13)
      clear bt_13
      cases t_13 with
      | false =>
        replace H := ite_f H
        replace H := app_hid H
        go_wp2_with fail
        go_roundg m0
        case measure => omega
        case rel => exact ⟨k0 + 1, _, _, _, by omega, by go_num, rfl, H, HBwt_13, Ff2_0__478, Ff2_1__479, Ff2_2__480, Okeys_7l0⟩
      | true =>
        replace H := ite_t H
        replace H := bind_hid H
        obtain ⟨t_17, qt_17, H⟩ := H
        go_wp2_with fail
        go_at_call 94
        refine (Go.Proofs.Ytdgbigkcophjoaa.GiIdOfComb.C ((Go.Proofs.Ytdgbigkcophjoaa.PComb.Comb.mk t_7_id t_7_wide t_7_high t_7_line))  _    qt_17).mono ?_
        rintro e_t_17 wt_17 ⟨rfl, bt_17⟩
        have HBwt_17 := Lib.hid (Below.step HBwt_13.out bt_17)
        replace Ff2_0__478 := cell_below bt_17 Ff2_0__478
        replace Ff2_1__479 := cell_below bt_17 Ff2_1__479
        replace Ff2_2__480 := cell_below bt_17 Ff2_2__480
        replace ct_7_0__481 := cell_below bt_17 ct_7_0__481
        replace ct_7_1__482 := cell_below bt_17 ct_7_1__482
        replace ct_7_2__483 := cell_below bt_17 ct_7_2__483
        replace ct_7_3__484 := cell_below bt_17 ct_7_3__484
        replace ke_9_0 := cell_below bt_17 ke_9_0
        replace ke_9_1 := cell_below bt_17 ke_9_1
        replace ke_9_2 := cell_below bt_17 ke_9_2
        replace ke_9_3 := cell_below bt_17 ke_9_3
        replace Okeys_7l0 := Lib.hid (own_below Okeys_7l0.out bt_17)
        clear bt_17
        obtain ⟨w_t_18, hw_t_18⟩ : ∃ x, wt_17.alloc (.cells #[.int .i64 t_17] 3) = x := ⟨_, rfl⟩
        have bw_t_18 : Below wt_17.heap.size wt_17 w_t_18 := by rw [← hw_t_18]; exact (Below.refl _ _).alloc (Nat.le_refl _) _
        have HBw_t_18 := Lib.hid (Below.step HBwt_17.out bw_t_18)
        have Ff2_0__485 := cell_below bw_t_18 Ff2_0__478
        have Ff2_1__486 := cell_below bw_t_18 Ff2_1__479
        have Ff2_2__487 := cell_below bw_t_18 Ff2_2__480
        have ct_7_0__488 := cell_below bw_t_18 ct_7_0__481
        have ct_7_1__489 := cell_below bw_t_18 ct_7_1__482
        have ct_7_2__490 := cell_below bw_t_18 ct_7_2__483
        have ct_7_3__491 := cell_below bw_t_18 ct_7_3__484
        have ke_9_0__492 := cell_below bw_t_18 ke_9_0
        have ke_9_1__493 := cell_below bw_t_18 ke_9_1
        have ke_9_2__494 := cell_below bw_t_18 ke_9_2
        have ke_9_3__495 := cell_below bw_t_18 ke_9_3
        replace Okeys_7l0 := Lib.hid (own_below Okeys_7l0.out bw_t_18)
        clear bw_t_18
        replace H := guard_hid H
        obtain ⟨hlt_19, H⟩ := H
        replace H := let_hid H
        obtain ⟨t_19, ht_19, H⟩ := H
        have hht_19 := Lib.hid ht_19
        clear ht_19
        have hst_19 := HBw_t_18.out.size
        go_wp2_with (at_builtin; refine wpList_append_own_at _ rfl _ _ 29 rfl w.heap.size 3 i0_3 (.int .i64 0) 1 8 Try.underlying29 hi_3 hz0_3 hz1_3 hz2_3 rfl (by decide) _ _ _ rfl Okeys_7l0.out ⟨wt_17.heap.size, 0, none⟩ 1 1 [.int .i64 t_17] rfl rfl (news_new hw_t_18) (one_cells rfl) (by unfold maxLen; omega) (by omega) hst_19 ?_; intro vt_19 wt_19 ot_19 gt_19 zt_19 yt_19; clear zt_19; obtain ⟨qt_19, ct_19, rfl, pt_19⟩ := own_push hht_19.out (Go.Proofs.Ytdgbigkcophjoaa.HelpInt.iv_snoc _ _) rfl ot_19; have Pt_19 := Lib.hid pt_19; have Yt_19 := Lib.hid yt_19; have Gt_19 := Lib.hid gt_19; clear ot_19 gt_19 pt_19 yt_19; refine stop_in ?_)
        refine stop_out ?_
        have HBwt_19 := Lib.hid (HBw_t_18.out.grown Gt_19.out hst_19 (fun q hq => (Okeys_7l0.out.lt q hq).1))
        clear hst_19
        have Dt_19_e_9 : Hid (Apart (some ⟨qt_19, 0, none⟩) _) := Lib.hid (apart_app (Apart.symm De_9_keys_7l0.out) (fun a_ ha_ => by cases ha_; exact cell_lt ke_9_0__492) Yt_19.out)
        replace Ff2_0__485 := cell_below HBwt_19.out Ff2_0h.out
        replace Ff2_1__486 := cell_below HBwt_19.out Ff2_1h.out
        replace Ff2_2__487 := cell_below HBwt_19.out Ff2_2h.out
        replace ct_7_0__488 := cell_other ct_7_0__488 Gt_19.out (apart_old Okeys_7l0.out ltt_7)
        replace ct_7_1__489 := cell_other ct_7_1__489 Gt_19.out (apart_old Okeys_7l0.out ltt_7)
        replace ct_7_2__490 := cell_other ct_7_2__490 Gt_19.out (apart_old Okeys_7l0.out ltt_7)
        replace ct_7_3__491 := cell_other ct_7_3__491 Gt_19.out (apart_old Okeys_7l0.out ltt_7)
        replace ke_9_0__492 := cell_other ke_9_0__492 Gt_19.out (Apart.symm De_9_keys_7l0.out)
        replace ke_9_1__493 := cell_other ke_9_1__493 Gt_19.out (Apart.symm De_9_keys_7l0.out)
        replace ke_9_2__494 := cell_other ke_9_2__494 Gt_19.out (Apart.symm De_9_keys_7l0.out)
        replace ke_9_3__495 := cell_other ke_9_3__495 Gt_19.out (Apart.symm De_9_keys_7l0.out)
        clear Ff2_0__478 Ff2_1__479 Ff2_2__480 ct_7_0__481 ct_7_1__482 ct_7_2__483 ct_7_3__484 ke_9_0 ke_9_1 ke_9_2 ke_9_3
        clear Okeys_7l0 Yt_19 Gt_19
        replace H := app_hid H
        go_wp2_with fail
        go_roundg m0
        case measure => omega
        case rel => exact ⟨k0 + 1, _, _, _, by omega, by go_num, rfl, H, HBwt_19, Ff2_0__485, Ff2_1__486, Ff2_2__487, Pt_19⟩
end Go.Proofs.Ytdgbigkcophjoaa.GiKeysWhereCombIntiIdOfCombiMatchCombs1
