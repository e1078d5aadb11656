/- Texts on which the proofs of several laws stand, one behind the other (7 of 9). No condition of their own. -/
import Derived.Test.YtgimcnpkngpmiaaDoorChecked
import Derived.Test.YtgimcnpkngpmiaaDoorX11P1
import Derived.Test.YtgimcnpkngpmiaaDoorX11P2
import Derived.Test.YtgimcnpkngpmiaaDoorX11P3
import Derived.Test.YtgimcnpkngpmiaaDoorX11P6
import Derived.WalkKit
import Derived.WalkSpells
import Derived.WalkLawsBesides
import Derived.BigQuiet
import Derived.OwnWalk
import Derived.Deep.LoopGhost
import Derived.Deep.QuietTactic
import Derived.IntWalk
import Derived.Lib.QuietBelow
import Derived.Test.YtgimcnpkngpmiaaDoorX11P4
import Derived.Lib.Hide
import Derived.Outline
import Derived.Lib.ItoaLen
import Derived.Lib.ItoaMem
import Derived.Laws.IdiomStrings
import Derived.Deep.RegionHeld3
/- loop.example/g01062/impl.keysWhere[loop.example/g01062/impl.Postmark,int] as a plain function, and the contract of the program's: where the plain one has an answer, the program has it. Conditions: slices read as lists. -/
namespace Go.Proofs.YtgimcnpkngpmiaaDoor.GiKeysWherePostmarkIntiIdOfPostmarkiReadMarks1
set_option linter.unusedVariables false
set_option linter.unusedSimpArgs false
open Go.RowKit
open Go.Proofs.YtgimcnpkngpmiaaDoor.Rowed Go.Proofs.YtgimcnpkngpmiaaDoor.Turn Go.Proofs.YtgimcnpkngpmiaaDoor.Aid Go.Proofs.YtgimcnpkngpmiaaDoor.GoP Go.Proofs.YtgimcnpkngpmiaaDoor.GoM

def l0 (list : (List Go.Proofs.YtgimcnpkngpmiaaDoor.PPostmark.Postmark)) (hf2_0 : Int) (hf2_1 : ByteArray) (k0 : Nat) (s : (List Int)) (nx0 bk0 : (List Int) → Option ((List Int))) : Option ((List Int)) :=
  letK s fun keys_7l0 =>
  Option.bind (idx list (k0 : Int)) fun (yt_7 : Go.Proofs.YtgimcnpkngpmiaaDoor.PPostmark.Postmark) =>
  unPostmark yt_7 fun (t_7_id : Int) (t_7_town : ByteArray) (t_7_kind_ : Int) (t_7_first : Int) (t_7_last : Int) (t_7_lost : ByteArray) =>
  Option.bind (Go.Proofs.YtgimcnpkngpmiaaDoor.GiReadMarks1.P (Go.Proofs.YtgimcnpkngpmiaaDoor.PPostmark.Postmark.mk t_7_id t_7_town t_7_kind_ t_7_first t_7_last t_7_lost) hf2_0 hf2_1) fun (t_13 : Bool) =>
  iteK t_13
  (Option.bind (Go.Proofs.YtgimcnpkngpmiaaDoor.GiIdOfPostmark.P (Go.Proofs.YtgimcnpkngpmiaaDoor.PPostmark.Postmark.mk t_7_id t_7_town t_7_kind_ t_7_first t_7_last t_7_lost)) fun (t_17 : Int) =>
  guardK (keys_7l0.length ≤ 1099511627776) <|
  letK (keys_7l0 ++ [t_17]) fun (t_19 : (List Int)) =>
  appK nx0 (t_19))
  (appK nx0 (keys_7l0))

def e0  (s : (List Int)) : Option ((List Int)) :=
  letK s fun keys_7l0 =>
  some keys_7l0

def P (list : (List Go.Proofs.YtgimcnpkngpmiaaDoor.PPostmark.Postmark)) (hf2_0 : Int) (hf2_1 : ByteArray) : Option ((List Int)) :=
  cntK (l0 list hf2_0 hf2_1) (list.length) 0 (([] : List Int)) (e0 )

set_option maxRecDepth 100000 in
set_option maxHeartbeats 2000000 in
theorem C (list : (List Go.Proofs.YtgimcnpkngpmiaaDoor.PPostmark.Postmark)) (hf2_0 : Int) (hf2_1 : ByteArray) (A0 : Option Addr) (c0 : Nat) (gf2_0 : Nat) (gf2_1 : Nat) (w : World) (M0 : Hid (Cells w 6 A0 list.length (Go.Proofs.YtgimcnpkngpmiaaDoor.PPostmark.flat list))) (N0 : Hid (list.length ≤ 9223372036854775807)) (Ff2_0h : Hid (w.cell? ⟨gf2_0, 0, none⟩ = some (.int .i64 hf2_0))) (Ff2_1h : Hid (w.cell? ⟨gf2_1, 0, none⟩ = some (.string hf2_1))) {r : (List Int)} (H : Hid (P list hf2_0 hf2_1 = some r)) :
    Calls Tryd.prog 48 #[.slice A0 list.length c0, .func (.func 49) #[] #[], .func (.func 50) #[] #[.pointer (some ⟨gf2_0, 0, none⟩), .pointer (some ⟨gf2_1, 0, none⟩)]] w (fun e w' => ∃ A_r c_r, e = .returned (.slice A_r r.length c_r) ∧ w'.ownsRow w.heap.size 3 1 (.slice A_r r.length c_r) r.length (Go.Proofs.YtgimcnpkngpmiaaDoor.HelpInt.iv r) ∧ Below w.heap.size w w') := by
  have HB := Lib.hid (Below.refl w.heap.size w)
  unfold P at H
  have N0o := N0.out
  have Ff2_0 := Ff2_0h.out
  have Ff2_1 := Ff2_1h.out
  obtain ⟨i0_3, hi_3, hz0_3, hz1_3, hz2_3⟩ := Aid.info_parts (P := Tryd.prog) (T := 3) (z := .int .i64 0) (s := 1) (b := 8) (by kernel_rfl)
  go_enter Tryd.func48, Tryd.ntmps48
  obtain ⟨w_t_1, hw_t_1⟩ : ∃ x, w.alloc (.cells #[] 3) = x := ⟨_, rfl⟩
  have bw_t_1 : Below w.heap.size w w_t_1 := by rw [← hw_t_1]; exact (Below.refl _ _).alloc (Nat.le_refl _) _
  have Ot_1 : Hid (w_t_1.ownsRow w.heap.size 3 1 (.slice (some ⟨w.heap.size, 0, none⟩) 0 0) 0 []) := Lib.hid (by rw [← hw_t_1]; exact own_empty HB.out.size)
  have HBw_t_1 := Lib.hid (Below.step HB.out bw_t_1)
  have Ff2_0__181 := cell_below bw_t_1 Ff2_0
  have Ff2_1__182 := cell_below bw_t_1 Ff2_1
  clear bw_t_1
  go_wp2_with fail
  clear Ff2_0 Ff2_1
  go_loopg [13, 7] (list.length) (fun m_ v13_ v7_ wr => ∃ (k0 : Nat) (keys_7l0 : (List Int)) (Akeys_7l0 : Option Addr) (ckeys_7l0 : Nat), k0 + m_ = list.length ∧ v13_ = .int .i64 (k0 : Int) ∧ v7_ = .slice Akeys_7l0 keys_7l0.length ckeys_7l0 ∧ Hid (cntK (l0 list hf2_0 hf2_1) m_ k0 (keys_7l0) (e0 ) = some r) ∧ Hid (Below w.heap.size w wr) ∧ wr.cell? ⟨gf2_0, 0, none⟩ = some (.int .i64 hf2_0) ∧ wr.cell? ⟨gf2_1, 0, none⟩ = some (.string hf2_1) ∧ Hid (wr.ownsRow w.heap.size 3 1 (.slice Akeys_7l0 keys_7l0.length ckeys_7l0) keys_7l0.length (Go.Proofs.YtgimcnpkngpmiaaDoor.HelpInt.iv keys_7l0)))
  case atStart => exact ⟨0, _, _, _, by omega, rfl, rfl, H, HBw_t_1, Ff2_0__181, Ff2_1__182, Ot_1⟩
  case round =>
    obtain ⟨k0, keys_7l0, Akeys_7l0, ckeys_7l0, hkm0, rfl, rfl, H, HBwr0, Ff2_0__181, Ff2_1__182, Okeys_7l0⟩ := hrel
    rename World => wr0
    cases gk with
    | zero =>
      obtain rfl : k0 = list.length := by omega
      have hc0 : decide (((list.length : Nat) : Int) < ((list.length : Nat) : Int)) = false := by simp
      replace H := cnt_zero H
      unfold e0 at H
      replace H := let_hid H
      obtain ⟨_, rfl, H⟩ := H
      obtain rfl := ret_hid H
      go_wp2_with fail
      go_ret
      exact ⟨Akeys_7l0, ckeys_7l0, rfl, Okeys_7l0.out, HBwr0.out⟩
    | succ m0 =>
      have hlt0 : k0 < list.length := by omega
      have hc0 : decide ((k0 : Int) < ((list.length : Nat) : Int)) = true := by simp; omega
      replace H := cnt_succ H
      unfold l0 at H
      replace H := let_hid H
      obtain ⟨_, rfl, H⟩ := H
      replace H := idx_hid H
      obtain ⟨nt_7, yt_7, et_7, lt_7, gt_7, H⟩ := H
      obtain rfl : k0 = nt_7 := by omega
      clear et_7
      obtain ⟨t_7_id, t_7_town, t_7_kind_, t_7_first, t_7_last, t_7_lost⟩ := yt_7
      replace H := unPostmark_hid H
      obtain ⟨ab_t_7, ao_t_7, zt_7, At_7, z_t_7, ct_7_0, ct_7_1, ct_7_2, ct_7_3, ct_7_4, ct_7_5⟩ := Go.Proofs.YtgimcnpkngpmiaaDoor.OPostmark.at_ M0.out lt_7
      obtain rfl := Option.some.inj (gt_7.out.symm.trans z_t_7)
      subst At_7
      have ltt_7 := cell_lt ct_7_0
      replace ct_7_0 := cell_below HBwr0.out ct_7_0
      replace ct_7_1 := cell_below HBwr0.out ct_7_1
      replace ct_7_2 := cell_below HBwr0.out ct_7_2
      replace ct_7_3 := cell_below HBwr0.out ct_7_3
      replace ct_7_4 := cell_below HBwr0.out ct_7_4
      replace ct_7_5 := cell_below HBwr0.out ct_7_5
      clear z_t_7
      have b0t_7 : (0 : Int) ≤ (k0 : Int) := by omega
      have b1t_7 : (k0 : Int) < ((list.length : Nat) : Int) := by omega
      have b2t_7 : ((k0 : Int)).toNat = k0 := by omega
      obtain ⟨w_e_9, hw_e_9⟩ : ∃ x, wr0.alloc (.cells #[.int .i64 t_7_id, .string t_7_town, .int .i64 t_7_kind_, .int .i64 t_7_first, .int .i64 t_7_last, .string t_7_lost] 39) = x := ⟨_, rfl⟩
      have bw_e_9 : Below wr0.heap.size wr0 w_e_9 := by rw [← hw_e_9]; exact (Below.refl _ _).alloc (Nat.le_refl _) _
      have De_9_keys_7l0 := Lib.hid (apart_fresh Okeys_7l0.out)
      have HBw_e_9 := Lib.hid (Below.step HBwr0.out bw_e_9)
      have Ff2_0__183 := cell_below bw_e_9 Ff2_0__181
      have Ff2_1__184 := cell_below bw_e_9 Ff2_1__182
      have ct_7_0__185 := cell_below bw_e_9 ct_7_0
      have ct_7_1__186 := cell_below bw_e_9 ct_7_1
      have ct_7_2__187 := cell_below bw_e_9 ct_7_2
      have ct_7_3__188 := cell_below bw_e_9 ct_7_3
      have ct_7_4__189 := cell_below bw_e_9 ct_7_4
      have ct_7_5__190 := cell_below bw_e_9 ct_7_5
      replace Okeys_7l0 := Lib.hid (own_below Okeys_7l0.out bw_e_9)
      clear bw_e_9
      have ke_9_0 : w_e_9.cell? ⟨wr0.heap.size, 0, none⟩ = some (.int .i64 t_7_id) := by rw [← hw_e_9]; exact box_new _ _ _ 0 _ rfl
      have ke_9_1 : w_e_9.cell? ⟨wr0.heap.size, 1, none⟩ = some (.string t_7_town) := by rw [← hw_e_9]; exact box_new _ _ _ 1 _ rfl
      have ke_9_2 : w_e_9.cell? ⟨wr0.heap.size, 2, none⟩ = some (.int .i64 t_7_kind_) := by rw [← hw_e_9]; exact box_new _ _ _ 2 _ rfl
      have ke_9_3 : w_e_9.cell? ⟨wr0.heap.size, 3, none⟩ = some (.int .i64 t_7_first) := by rw [← hw_e_9]; exact box_new _ _ _ 3 _ rfl
      have ke_9_4 : w_e_9.cell? ⟨wr0.heap.size, 4, none⟩ = some (.int .i64 t_7_last) := by rw [← hw_e_9]; exact box_new _ _ _ 4 _ rfl
      have ke_9_5 : w_e_9.cell? ⟨wr0.heap.size, 5, none⟩ = some (.string t_7_lost) := by rw [← hw_e_9]; exact box_new _ _ _ 5 _ rfl
      replace H := bind_hid H
      obtain ⟨t_13, qt_13, H⟩ := H
      go_wp2_with fail
      clear Ff2_0__181 Ff2_1__182 ct_7_0 ct_7_1 ct_7_2 ct_7_3 ct_7_4 ct_7_5
      go_at_call 50
      refine (Go.Proofs.YtgimcnpkngpmiaaDoor.GiReadMarks1.C ((Go.Proofs.YtgimcnpkngpmiaaDoor.PPostmark.Postmark.mk t_7_id t_7_town t_7_kind_ t_7_first t_7_last t_7_lost)) (hf2_0) (hf2_1) (gf2_0) (gf2_1) _   (Lib.hid Ff2_0__183) (Lib.hid Ff2_1__184) qt_13).mono ?_
      rintro e_t_13 wt_13 ⟨rfl, bt_13⟩
      have HBwt_13 := Lib.hid (Below.step HBw_e_9.out bt_13)
      replace Ff2_0__183 := cell_below bt_13 Ff2_0__183
      replace Ff2_1__184 := cell_below bt_13 Ff2_1__184
      replace ct_7_0__185 := cell_below bt_13 ct_7_0__185
      replace ct_7_1__186 := cell_below bt_13 ct_7_1__186
      replace ct_7_2__187 := cell_below bt_13 ct_7_2__187
      replace ct_7_3__188 := cell_below bt_13 ct_7_3__188
      replace ct_7_4__189 := cell_below bt_13 ct_7_4__189
      replace ct_7_5__190 := cell_below bt_13 ct_7_5__190
      replace ke_9_0 := cell_below bt_13 ke_9_0
      replace ke_9_1 := cell_below bt_13 ke_9_1
      replace ke_9_2 := cell_below bt_13 ke_9_2
      replace ke_9_3 := cell_below bt_13 ke_9_3
      replace ke_9_4 := cell_below bt_13 ke_9_4
      replace ke_9_5 := cell_below bt_13 ke_9_5
      replace Okeys_7l0 := Lib.hid (own_below Okeys_7l0.out bt_13)
      clear bt_13
      cases t_13 with
      | false =>
        replace H := ite_f H
        replace H := app_hid H
        go_wp2_with fail
        go_roundg m0
        case measure => omega
        case rel => exact ⟨k0 + 1, _, _, _, by omega, by go_num, rfl, H, HBwt_13, Ff2_0__183, Ff2_1__184, Okeys_7l0⟩
      | true =>
        replace H := ite_t H
        replace H := bind_hid H
        obtain ⟨t_17, qt_17, H⟩ := H
        go_wp2_with fail
        go_at_call 49
        refine (Go.Proofs.YtgimcnpkngpmiaaDoor.GiIdOfPostmark.C ((Go.Proofs.YtgimcnpkngpmiaaDoor.PPostmark.Postmark.mk t_7_id t_7_town t_7_kind_ t_7_first t_7_last t_7_lost))  _    qt_17).mono ?_
        rintro e_t_17 wt_17 ⟨rfl, bt_17⟩
        have HBwt_17 := Lib.hid (Below.step HBwt_13.out bt_17)
        replace Ff2_0__183 := cell_below bt_17 Ff2_0__183
        replace Ff2_1__184 := cell_below bt_17 Ff2_1__184
        replace ct_7_0__185 := cell_below bt_17 ct_7_0__185
        replace ct_7_1__186 := cell_below bt_17 ct_7_1__186
        replace ct_7_2__187 := cell_below bt_17 ct_7_2__187
        replace ct_7_3__188 := cell_below bt_17 ct_7_3__188
        replace ct_7_4__189 := cell_below bt_17 ct_7_4__189
        replace ct_7_5__190 := cell_below bt_17 ct_7_5__190
        replace ke_9_0 := cell_below bt_17 ke_9_0
        replace ke_9_1 := cell_below bt_17 ke_9_1
        replace ke_9_2 := cell_below bt_17 ke_9_2
        replace ke_9_3 := cell_below bt_17 ke_9_3
        replace ke_9_4 := cell_below bt_17 ke_9_4
        replace ke_9_5 := cell_below bt_17 ke_9_5
        replace Okeys_7l0 := Lib.hid (own_below Okeys_7l0.out bt_17)
        clear bt_17
        obtain ⟨w_t_18, hw_t_18⟩ : ∃ x, wt_17.alloc (.cells #[.int .i64 t_17] 3) = x := ⟨_, rfl⟩
        have bw_t_18 : Below wt_17.heap.size wt_17 w_t_18 := by rw [← hw_t_18]; exact (Below.refl _ _).alloc (Nat.le_refl _) _
        have HBw_t_18 := Lib.hid (Below.step HBwt_17.out bw_t_18)
        have Ff2_0__191 := cell_below bw_t_18 Ff2_0__183
        have Ff2_1__192 := cell_below bw_t_18 Ff2_1__184
        have ct_7_0__193 := cell_below bw_t_18 ct_7_0__185
        have ct_7_1__194 := cell_below bw_t_18 ct_7_1__186
        have ct_7_2__195 := cell_below bw_t_18 ct_7_2__187
        have ct_7_3__196 := cell_below bw_t_18 ct_7_3__188
        have ct_7_4__197 := cell_below bw_t_18 ct_7_4__189
        have ct_7_5__198 := cell_below bw_t_18 ct_7_5__190
        have ke_9_0__199 := cell_below bw_t_18 ke_9_0
        have ke_9_1__200 := cell_below bw_t_18 ke_9_1
        have ke_9_2__201 := cell_below bw_t_18 ke_9_2
        have ke_9_3__202 := cell_below bw_t_18 ke_9_3
        have ke_9_4__203 := cell_below bw_t_18 ke_9_4
        have ke_9_5__204 := cell_below bw_t_18 ke_9_5
        replace Okeys_7l0 := Lib.hid (own_below Okeys_7l0.out bw_t_18)
        clear bw_t_18
        replace H := guard_hid H
        obtain ⟨hlt_19, H⟩ := H
        replace H := let_hid H
        obtain ⟨t_19, ht_19, H⟩ := H
        have hht_19 := Lib.hid ht_19
        clear ht_19
        have hst_19 := HBw_t_18.out.size
        go_wp2_with (at_builtin; refine wpList_append_own_at _ rfl _ _ 24 rfl w.heap.size 3 i0_3 (.int .i64 0) 1 8 Tryd.underlying24 hi_3 hz0_3 hz1_3 hz2_3 rfl (by decide) _ _ _ rfl Okeys_7l0.out ⟨wt_17.heap.size, 0, none⟩ 1 1 [.int .i64 t_17] rfl rfl (news_new hw_t_18) (one_cells rfl) (by unfold maxLen; omega) (by omega) hst_19 ?_; intro vt_19 wt_19 ot_19 gt_19 zt_19 yt_19; clear zt_19; obtain ⟨qt_19, ct_19, rfl, pt_19⟩ := own_push hht_19.out (Go.Proofs.YtgimcnpkngpmiaaDoor.HelpInt.iv_snoc _ _) rfl ot_19; have Pt_19 := Lib.hid pt_19; have Yt_19 := Lib.hid yt_19; have Gt_19 := Lib.hid gt_19; clear ot_19 gt_19 pt_19 yt_19; refine stop_in ?_)
        refine stop_out ?_
        have HBwt_19 := Lib.hid (HBw_t_18.out.grown Gt_19.out hst_19 (fun q hq => (Okeys_7l0.out.lt q hq).1))
        clear hst_19
        have Dt_19_e_9 : Hid (Apart (some ⟨qt_19, 0, none⟩) _) := Lib.hid (apart_app (Apart.symm De_9_keys_7l0.out) (fun a_ ha_ => by cases ha_; exact cell_lt ke_9_0__199) Yt_19.out)
        replace Ff2_0__191 := cell_below HBwt_19.out Ff2_0h.out
        replace Ff2_1__192 := cell_below HBwt_19.out Ff2_1h.out
        replace ct_7_0__193 := cell_other ct_7_0__193 Gt_19.out (apart_old Okeys_7l0.out ltt_7)
        replace ct_7_1__194 := cell_other ct_7_1__194 Gt_19.out (apart_old Okeys_7l0.out ltt_7)
        replace ct_7_2__195 := cell_other ct_7_2__195 Gt_19.out (apart_old Okeys_7l0.out ltt_7)
        replace ct_7_3__196 := cell_other ct_7_3__196 Gt_19.out (apart_old Okeys_7l0.out ltt_7)
        replace ct_7_4__197 := cell_other ct_7_4__197 Gt_19.out (apart_old Okeys_7l0.out ltt_7)
        replace ct_7_5__198 := cell_other ct_7_5__198 Gt_19.out (apart_old Okeys_7l0.out ltt_7)
        replace ke_9_0__199 := cell_other ke_9_0__199 Gt_19.out (Apart.symm De_9_keys_7l0.out)
        replace ke_9_1__200 := cell_other ke_9_1__200 Gt_19.out (Apart.symm De_9_keys_7l0.out)
        replace ke_9_2__201 := cell_other ke_9_2__201 Gt_19.out (Apart.symm De_9_keys_7l0.out)
        replace ke_9_3__202 := cell_other ke_9_3__202 Gt_19.out (Apart.symm De_9_keys_7l0.out)
        replace ke_9_4__203 := cell_other ke_9_4__203 Gt_19.out (Apart.symm De_9_keys_7l0.out)
        replace ke_9_5__204 := cell_other ke_9_5__204 Gt_19.out (Apart.symm De_9_keys_7l0.out)
        clear Ff2_0__183 Ff2_1__184 ct_7_0__185 ct_7_1__186 ct_7_2__187 ct_7_3__188 ct_7_4__189 ct_7_5__190 ke_9_0 ke_9_1 ke_9_2 ke_9_3 ke_9_4 ke_9_5
        clear Okeys_7l0 Yt_19 Gt_19
        replace H := app_hid H
        go_wp2_with fail
        go_roundg m0
        case measure => omega
        case rel => exact ⟨k0 + 1, _, _, _, by omega, by go_num, rfl, H, HBwt_19, Ff2_0__191, Ff2_1__192, Pt_19⟩
end Go.Proofs.YtgimcnpkngpmiaaDoor.GiKeysWherePostmarkIntiIdOfPostmarkiReadMarks1

/- loop.example/g01062/impl.ReadMarks as a plain function, and the contract of the program's: where the plain one has an answer, the program has it. Conditions: slices read as lists. -/
namespace Go.Proofs.YtgimcnpkngpmiaaDoor.GiReadMarks
set_option linter.unusedVariables false
set_option linter.unusedSimpArgs false
open Go.RowKit
open Go.Proofs.YtgimcnpkngpmiaaDoor.Rowed Go.Proofs.YtgimcnpkngpmiaaDoor.Turn Go.Proofs.YtgimcnpkngpmiaaDoor.Aid Go.Proofs.YtgimcnpkngpmiaaDoor.GoP Go.Proofs.YtgimcnpkngpmiaaDoor.GoM Go.Proofs.YtgimcnpkngpmiaaDoor.TabM

def P (list : (List Go.Proofs.YtgimcnpkngpmiaaDoor.PPostmark.Postmark)) (reading : ByteArray) (day : Int) : Option ((List Int) × Bool) :=
  Option.bind (Go.Proofs.YtgimcnpkngpmiaaDoor.GiArePostmarks.P list) fun (t_5 : Bool) =>
  letK (!t_5) fun (t_6 : Bool) =>
  joinK (fun (t_11 : Bool) =>
  joinK (fun (t_16 : Bool) =>
  iteK t_16
  (some (([] : List Int), false))
  (Option.bind (Go.Proofs.YtgimcnpkngpmiaaDoor.GiKeysWherePostmarkIntiIdOfPostmarkiReadMarks1.P list day reading) fun (t_22 : (List Int)) =>
  some (t_22, true))) fun jt_16 => iteK t_11 (appK jt_16 true) (Option.bind (Go.Proofs.YtgimcnpkngpmiaaDoor.GiIsDay.P day) fun (t_14 : Bool) =>
  letK (!t_14) fun (t_15 : Bool) =>
  appK jt_16 t_15)) fun jt_11 => iteK t_6 (appK jt_11 true) (Option.bind (Go.Proofs.YtgimcnpkngpmiaaDoor.GiIsReading.P reading) fun (t_9 : Bool) =>
  letK (!t_9) fun (t_10 : Bool) =>
  appK jt_11 t_10)

set_option maxRecDepth 100000 in
set_option maxHeartbeats 2000000 in
theorem C (list : (List Go.Proofs.YtgimcnpkngpmiaaDoor.PPostmark.Postmark)) (reading : ByteArray) (day : Int) (A0 : Option Addr) (c0 : Nat)  (w : World) (HT : Hid (Tab w)) (M0 : Hid (Cells w 6 A0 list.length (Go.Proofs.YtgimcnpkngpmiaaDoor.PPostmark.flat list))) (N0 : Hid (list.length ≤ 9223372036854775807))  {r0 : (List Int)} {r1 : Bool} (H : Hid (P list reading day = some (r0, r1))) :
    Calls Tryd.prog 9 #[.slice A0 list.length c0, .string reading, .int .i64 day] w (fun e w' => ∃ A_r0 c_r0, e = .returned (.tuple #[.slice A_r0 r0.length c_r0, .bool r1]) ∧ w'.ownsRow w.heap.size 3 1 (.slice A_r0 r0.length c_r0) r0.length (Go.Proofs.YtgimcnpkngpmiaaDoor.HelpInt.iv r0) ∧ Below w.heap.size w w') := by
  have HB := Lib.hid (Below.refl w.heap.size w)
  unfold P at H
  have N0o := N0.out
  go_enter Tryd.func9, Tryd.ntmps9
  obtain ⟨w_reading_0, hw_reading_0⟩ : ∃ x, w.alloc (.cells #[.string reading] 9) = x := ⟨_, rfl⟩
  have bw_reading_0 : Below w.heap.size w w_reading_0 := by rw [← hw_reading_0]; exact (Below.refl _ _).alloc (Nat.le_refl _) _
  have HBw_reading_0 := Lib.hid (Below.step HB.out bw_reading_0)
  clear bw_reading_0
  have kreading_0_0 : w_reading_0.cell? ⟨w.heap.size, 0, none⟩ = some (.string reading) := by rw [← hw_reading_0]; exact box_new _ _ _ 0 _ rfl
  obtain ⟨w_day_1, hw_day_1⟩ : ∃ x, w_reading_0.alloc (.cells #[.int .i64 day] 3) = x := ⟨_, rfl⟩
  have bw_day_1 : Below w_reading_0.heap.size w_reading_0 w_day_1 := by rw [← hw_day_1]; exact (Below.refl _ _).alloc (Nat.le_refl _) _
  have HBw_day_1 := Lib.hid (Below.step HBw_reading_0.out bw_day_1)
  have kreading_0_0__205 := cell_below bw_day_1 kreading_0_0
  clear bw_day_1
  have kday_1_0 : w_day_1.cell? ⟨w_reading_0.heap.size, 0, none⟩ = some (.int .i64 day) := by rw [← hw_day_1]; exact box_new _ _ _ 0 _ rfl
  replace H := bind_hid H
  obtain ⟨t_5, qt_5, H⟩ := H
  go_wp2_with fail
  clear kreading_0_0
  go_at_call 38
  refine (Go.Proofs.YtgimcnpkngpmiaaDoor.GiArePostmarks.C (list) A0 c0 _   (Lib.hid (Cells.below M0.out HBw_day_1.out)) N0 qt_5).mono ?_
  rintro e_t_5 wt_5 ⟨rfl, bt_5⟩
  have HBwt_5 := Lib.hid (Below.step HBw_day_1.out bt_5)
  replace kreading_0_0__205 := cell_below bt_5 kreading_0_0__205
  replace kday_1_0 := cell_below bt_5 kday_1_0
  clear bt_5
  cases t_5 with
  | false =>
    replace H := let_hid H
    obtain ⟨t_6, ht_6, H⟩ := H
    obtain rfl : t_6 = true := ht_6.symm
    replace H := join_hid H
    replace H := ite_t H
    replace H := app_hid H
    replace H := join_hid H
    replace H := ite_t H
    replace H := app_hid H
    replace H := ite_t H
    obtain ⟨w_t_17, hw_t_17⟩ : ∃ x, wt_5.alloc (.cells #[] 3) = x := ⟨_, rfl⟩
    have bw_t_17 : Below wt_5.heap.size wt_5 w_t_17 := by rw [← hw_t_17]; exact (Below.refl _ _).alloc (Nat.le_refl _) _
    have Ot_17 : Hid (w_t_17.ownsRow w.heap.size 3 1 (.slice (some ⟨wt_5.heap.size, 0, none⟩) 0 0) 0 []) := Lib.hid (by rw [← hw_t_17]; exact own_empty HBwt_5.out.size)
    have Dt_17_reading_0 := Lib.hid (apart_box kreading_0_0__205)
    have Dt_17_day_1 := Lib.hid (apart_box kday_1_0)
    have HBw_t_17 := Lib.hid (Below.step HBwt_5.out bw_t_17)
    have kreading_0_0__206 := cell_below bw_t_17 kreading_0_0__205
    have kday_1_0__207 := cell_below bw_t_17 kday_1_0
    clear bw_t_17
    cases ret_hid H
    go_wp2_with fail
    go_ret2
    exact ⟨(some ⟨wt_5.heap.size, 0, none⟩), 0, rfl, Ot_17.out, HBw_t_17.out⟩
  | true =>
    replace H := let_hid H
    obtain ⟨t_6, ht_6, H⟩ := H
    obtain rfl : t_6 = false := ht_6.symm
    replace H := join_hid H
    replace H := ite_f H
    replace H := bind_hid H
    obtain ⟨t_9, qt_9, H⟩ := H
    go_wp2_with fail
    go_at_call 46
    refine (Go.Proofs.YtgimcnpkngpmiaaDoor.GiIsReading.C (reading)  _ (tab_below HBwt_5.out HT)   qt_9).mono ?_
    rintro e_t_9 wt_9 ⟨rfl, bt_9⟩
    have HBwt_9 := Lib.hid (Below.step HBwt_5.out bt_9)
    replace kreading_0_0__205 := cell_below bt_9 kreading_0_0__205
    replace kday_1_0 := cell_below bt_9 kday_1_0
    clear bt_9
    cases t_9 with
    | false =>
      replace H := let_hid H
      obtain ⟨t_10, ht_10, H⟩ := H
      obtain rfl : t_10 = true := ht_10.symm
      replace H := app_hid H
      replace H := join_hid H
      replace H := ite_t H
      replace H := app_hid H
      replace H := ite_t H
      obtain ⟨w_t_17, hw_t_17⟩ : ∃ x, wt_9.alloc (.cells #[] 3) = x := ⟨_, rfl⟩
      have bw_t_17 : Below wt_9.heap.size wt_9 w_t_17 := by rw [← hw_t_17]; exact (Below.refl _ _).alloc (Nat.le_refl _) _
      have Ot_17 : Hid (w_t_17.ownsRow w.heap.size 3 1 (.slice (some ⟨wt_9.heap.size, 0, none⟩) 0 0) 0 []) := Lib.hid (by rw [← hw_t_17]; exact own_empty HBwt_9.out.size)
      have Dt_17_reading_0 := Lib.hid (apart_box kreading_0_0__205)
      have Dt_17_day_1 := Lib.hid (apart_box kday_1_0)
      have HBw_t_17 := Lib.hid (Below.step HBwt_9.out bw_t_17)
      have kreading_0_0__208 := cell_below bw_t_17 kreading_0_0__205
      have kday_1_0__209 := cell_below bw_t_17 kday_1_0
      clear bw_t_17
      cases ret_hid H
      go_wp2_with fail
      go_ret2
      exact ⟨(some ⟨wt_9.heap.size, 0, none⟩), 0, rfl, Ot_17.out, HBw_t_17.out⟩
    | true =>
      replace H := let_hid H
      obtain ⟨t_10, ht_10, H⟩ := H
      obtain rfl : t_10 = false := ht_10.symm
      replace H := app_hid H
      replace H := join_hid H
      replace H := ite_f H
      replace H := bind_hid H
      obtain ⟨t_14, qt_14, H⟩ := H
      go_wp2_with fail
      go_at_call 47
      refine (Go.Proofs.YtgimcnpkngpmiaaDoor.GiIsDay.C (day)  _    qt_14).mono ?_
      rintro e_t_14 wt_14 ⟨rfl, bt_14⟩
      have HBwt_14 := Lib.hid (Below.step HBwt_9.out bt_14)
      replace kreading_0_0__205 := cell_below bt_14 kreading_0_0__205
      replace kday_1_0 := cell_below bt_14 kday_1_0
      clear bt_14
      cases t_14 with
      | false =>
        replace H := let_hid H
        obtain ⟨t_15, ht_15, H⟩ := H
        obtain rfl : t_15 = true := ht_15.symm
        replace H := app_hid H
        replace H := ite_t H
        obtain ⟨w_t_17, hw_t_17⟩ : ∃ x, wt_14.alloc (.cells #[] 3) = x := ⟨_, rfl⟩
        have bw_t_17 : Below wt_14.heap.size wt_14 w_t_17 := by rw [← hw_t_17]; exact (Below.refl _ _).alloc (Nat.le_refl _) _
        have Ot_17 : Hid (w_t_17.ownsRow w.heap.size 3 1 (.slice (some ⟨wt_14.heap.size, 0, none⟩) 0 0) 0 []) := Lib.hid (by rw [← hw_t_17]; exact own_empty HBwt_14.out.size)
        have Dt_17_reading_0 := Lib.hid (apart_box kreading_0_0__205)
        have Dt_17_day_1 := Lib.hid (apart_box kday_1_0)
        have HBw_t_17 := Lib.hid (Below.step HBwt_14.out bw_t_17)
        have kreading_0_0__210 := cell_below bw_t_17 kreading_0_0__205
        have kday_1_0__211 := cell_below bw_t_17 kday_1_0
        clear bw_t_17
        cases ret_hid H
        go_wp2_with fail
        go_ret2
        exact ⟨(some ⟨wt_14.heap.size, 0, none⟩), 0, rfl, Ot_17.out, HBw_t_17.out⟩
      | true =>
        replace H := let_hid H
        obtain ⟨t_15, ht_15, H⟩ := H
        obtain rfl : t_15 = false := ht_15.symm
        replace H := app_hid H
        replace H := ite_f H
        replace H := bind_hid H
        obtain ⟨t_22, qt_22, H⟩ := H
        go_wp2_with fail
        go_at_call 48
        refine (Go.Proofs.YtgimcnpkngpmiaaDoor.GiKeysWherePostmarkIntiIdOfPostmarkiReadMarks1.C (list) (day) (reading) A0 c0 (w_reading_0.heap.size) (w.heap.size) _   (Lib.hid (Cells.below M0.out HBwt_14.out)) N0 (Lib.hid kday_1_0) (Lib.hid kreading_0_0__205) qt_22).mono ?_
        rintro e_t_22 wt_22 ⟨At_22, ct_22, rfl, ot_22, bt_22⟩
        have Dt_22_reading_0 := Lib.hid (apart_callbox ot_22 kreading_0_0__205)
        have Dt_22_day_1 := Lib.hid (apart_callbox ot_22 kday_1_0)
        have Ot_22 := Lib.hid (own_lower ot_22 HBwt_14.out.size)
        clear ot_22
        have HBwt_22 := Lib.hid (Below.step HBwt_14.out bt_22)
        replace kreading_0_0__205 := cell_below bt_22 kreading_0_0__205
        replace kday_1_0 := cell_below bt_22 kday_1_0
        clear bt_22
        cases ret_hid H
        go_wp2_with fail
        go_ret2
        exact ⟨At_22, ct_22, rfl, Ot_22.out, HBwt_22.out⟩
end Go.Proofs.YtgimcnpkngpmiaaDoor.GiReadMarks

/- loop.example/g01062/laws.eqIntS as a plain function, and the contract of the program's: where the plain one has an answer, the program has it. Conditions: slices read as lists. -/
namespace Go.Proofs.YtgimcnpkngpmiaaDoor.GlEqIntS
set_option linter.unusedVariables false
set_option linter.unusedSimpArgs false
open Go.RowKit
open Go.Proofs.YtgimcnpkngpmiaaDoor.Rowed Go.Proofs.YtgimcnpkngpmiaaDoor.Turn Go.Proofs.YtgimcnpkngpmiaaDoor.Aid Go.Proofs.YtgimcnpkngpmiaaDoor.GoP Go.Proofs.YtgimcnpkngpmiaaDoor.GoM

def l0 (a : (List Int)) (b : (List Int)) (k0 : Nat) (s : Unit) (nx0 bk0 : Unit → Option (Bool)) : Option (Bool) :=
  
  Option.bind (idx a (k0 : Int)) fun (yt_14 : Int) =>
  Option.bind (idx b (k0 : Int)) fun (yt_18 : Int) =>
  letK (yt_14 != yt_18) fun (t_20 : Bool) =>
  iteK t_20
  (some false)
  (appK nx0 ())

def e0  (s : Unit) : Option (Bool) :=
  
  some true

def P (a : (List Int)) (b : (List Int)) : Option (Bool) :=
  letK ((a.length : Int) != (b.length : Int)) fun (t_5 : Bool) =>
  iteK t_5
  (some false)
  (cntK (l0 a b) (a.length) 0 () (e0 ))

set_option maxRecDepth 100000 in
set_option maxHeartbeats 2000000 in
theorem C (a : (List Int)) (b : (List Int)) (A0 : Option Addr) (c0 : Nat) (A1 : Option Addr) (c1 : Nat)  (w : World) (M0 : Hid (Cells w 1 A0 a.length (Go.Proofs.YtgimcnpkngpmiaaDoor.HelpInt.iv a))) (N0 : Hid (a.length ≤ 9223372036854775807)) (M1 : Hid (Cells w 1 A1 b.length (Go.Proofs.YtgimcnpkngpmiaaDoor.HelpInt.iv b))) (N1 : Hid (b.length ≤ 9223372036854775807))  {r : Bool} (H : Hid (P a b = some r)) :
    Calls Tryd.prog 10 #[.slice A0 a.length c0, .slice A1 b.length c1] w (Gives (.bool r) w) := by
  have HB := Lib.hid (Below.refl w.heap.size w)
  unfold P at H
  have N0o := N0.out
  have N1o := N1.out
  go_enter Tryd.func10, Tryd.ntmps10
  replace H := let_hid H
  obtain ⟨t_5, ht_5, H⟩ := H
  cases t_5 with
  | false =>
    have Hht_5 : Hid (a.length = b.length) := Lib.hid (by have := bne_eq_false_iff_eq.1 ht_5; omega)
    have nht_5 : (a.length == b.length) = true := beq_iff_eq.2 Hht_5.out
    replace H := ite_f H
    go_wp2_with fail
    go_loopg [5] (a.length) (fun m_ v5_ wr => ∃ (k0 : Nat) , k0 + m_ = a.length ∧ v5_ = .int .i64 (k0 : Int) ∧ Hid (cntK (l0 a b) m_ k0 () (e0 ) = some r) ∧ Hid (Below w.heap.size w wr))
    case atStart => exact ⟨0, by omega, rfl, H, HB⟩
    case round =>
      obtain ⟨k0, hkm0, rfl, H, HBwr0⟩ := hrel
      rename World => wr0
      cases gk with
      | zero =>
        obtain rfl : k0 = a.length := by omega
        have hc0 : decide (((a.length : Nat) : Int) < ((a.length : Nat) : Int)) = false := by simp
        replace H := cnt_zero H
        unfold e0 at H
        obtain rfl := ret_hid H
        go_wp2_with fail
        go_ret
        exact ⟨rfl, HBwr0.out⟩
      | succ m0 =>
        have hlt0 : k0 < a.length := by omega
        have hc0 : decide ((k0 : Int) < ((a.length : Nat) : Int)) = true := by simp; omega
        replace H := cnt_succ H
        unfold l0 at H
        go_wp2_with fail
        replace H := idx_hid H
        obtain ⟨nt_14, yt_14, et_14, lt_14, gt_14, H⟩ := H
        obtain rfl : k0 = nt_14 := by omega
        clear et_14
        obtain ⟨ab_t_14, ao_t_14, zt_14, At_14, z_t_14, ct_14_0⟩ := Go.Proofs.YtgimcnpkngpmiaaDoor.HelpInt.Ints.at_ M0.out lt_14
        obtain rfl := Option.some.inj (gt_14.out.symm.trans z_t_14)
        subst At_14
        have ltt_14 := cell_lt ct_14_0
        replace ct_14_0 := cell_below HBwr0.out ct_14_0
        clear z_t_14
        have b0t_14 : (0 : Int) ≤ (k0 : Int) := by omega
        have b1t_14 : (k0 : Int) < ((a.length : Nat) : Int) := by omega
        have b2t_14 : ((k0 : Int)).toNat = k0 := by omega
        have Hct_14_0 := Lib.hid ct_14_0
        replace ct_14_0 := cell_regrown ct_14_0
        replace H := idx_hid H
        obtain ⟨nt_18, yt_18, et_18, lt_18, gt_18, H⟩ := H
        obtain rfl : k0 = nt_18 := by omega
        clear et_18
        obtain ⟨ab_t_18, ao_t_18, zt_18, At_18, z_t_18, ct_18_0⟩ := Go.Proofs.YtgimcnpkngpmiaaDoor.HelpInt.Ints.at_ M1.out lt_18
        obtain rfl := Option.some.inj (gt_18.out.symm.trans z_t_18)
        subst At_18
        have ltt_18 := cell_lt ct_18_0
        replace ct_18_0 := cell_below HBwr0.out ct_18_0
        clear z_t_18
        have b0t_18 : (0 : Int) ≤ (k0 : Int) := by omega
        have b1t_18 : (k0 : Int) < ((b.length : Nat) : Int) := by omega
        have b2t_18 : ((k0 : Int)).toNat = k0 := by omega
        have Hct_18_0 := Lib.hid ct_18_0
        replace ct_18_0 := cell_regrown ct_18_0
        replace H := let_hid H
        obtain ⟨t_20, ht_20, H⟩ := H
        refine wp_region_quiet_below (by kernel_rfl) (by kernel_rfl) ?_
        repeat (go_big_quiet_step (fail))
        refine wpQuiet_nil ?_
        intro Y6 hY6
        replace hY6 := below_class hY6
        replace ct_14_0 := Hct_14_0.out
        clear Hct_14_0
        replace ct_18_0 := Hct_18_0.out
        clear Hct_18_0
        have HBY6 := Lib.hid (Below.step HBwr0.out hY6)
        replace ct_14_0 := cell_below hY6 ct_14_0
        replace ct_18_0 := cell_below hY6 ct_18_0
        clear hY6
        cases t_20 with
        | false =>
          replace H := ite_f H
          replace H := app_hid H
          go_wp2_with fail
          go_roundg m0
          case measure => omega
          case rel => exact ⟨k0 + 1, by omega, by go_num, H, HBY6⟩
        | true =>
          replace H := ite_t H
          obtain rfl := ret_hid H
          go_wp2_with fail
          go_ret
          exact ⟨rfl, HBY6.out⟩
  | true =>
    have nht_5 : ¬ (a.length = b.length) := by have := bne_iff_ne.1 ht_5; omega
    replace H := ite_t H
    obtain rfl := ret_hid H
    go_wp2_with fail
    go_ret
    exact ⟨rfl, HB.out⟩
end Go.Proofs.YtgimcnpkngpmiaaDoor.GlEqIntS

/- The contracts of the laws' helpers on slices of strings: szStringS, toStringS, eqStringS. Condition: the slice reads as a list of strings. -/
namespace Go.Proofs.YtgimcnpkngpmiaaDoor.HelpStr
set_option linter.unusedVariables false
open Go.RowKit
open Go.Proofs.YtgimcnpkngpmiaaDoor.Rowed

/-- how many bytes the strings hold together -/
def nbytes (l : List ByteArray) : Nat := (l.map ByteArray.size).sum
/-- szStringS: what is left of 'left' behind the strings and their number, or -1 where nothing is left -/
def SzPost (l : List ByteArray) (left : Int) (w : World) (e : Ending) (w' : World) : Prop :=
  ((0 ≤ left - (l.length : Int) - (nbytes l : Int) ∧ e = .returned (.int .i64 (left - (l.length : Int) - (nbytes l : Int)))) ∨ (left - (l.length : Int) - (nbytes l : Int) < 0 ∧ e = .returned (.int .i64 (-1)))) ∧ w = w'

/-- toStringS: a new row with the same strings -/
def ToPost (l : List ByteArray) (w : World) (e : Ending) (w' : World) : Prop :=
  ∃ g, e = .returned (.slice (some ⟨g, 0, none⟩) l.length l.length) ∧ w'.ownsRow w.heap.size 9 1 (.slice (some ⟨g, 0, none⟩) l.length l.length) l.length (l.map Value.string) ∧ Below w.heap.size w w'

def RelTo (l : List ByteArray) (ys : List Value) (w : World) (k : Nat) (wr : World) : Prop :=
  wr.ownsRow w.heap.size 9 1 (.slice (some ⟨w.heap.size, 0, none⟩) l.length l.length) l.length (fill (l.map Value.string) ys k) ∧ Below w.heap.size w wr

end Go.Proofs.YtgimcnpkngpmiaaDoor.HelpStr

/- The contracts of the laws' helpers that mark a slice of strings and look whether the marks are held: markText, markStringS, heldStringS. Conditions: the marks begin at 1 or more; the slice is one that the caller has made. -/
namespace Go.Proofs.YtgimcnpkngpmiaaDoor.MarkStr
set_option linter.unusedVariables false
open Go.RowKit
open Go.Proofs.YtgimcnpkngpmiaaDoor.Rowed Go.Proofs.YtgimcnpkngpmiaaDoor.HelpStr

/-- the mark of number k -/
def mt (k : Nat) : ByteArray := ⟨(109 :: Lib.decDigits k).toArray⟩

theorem ext_of {a b : ByteArray} (h : a.data.toList = b.data.toList) : a = b := by
  obtain ⟨⟨x⟩⟩ := a
  obtain ⟨⟨y⟩⟩ := b
  simp at h
  rw [h]
theorem add_str {P : Program} (a b c : ByteArray) (h : a.data.toList ++ b.data.toList = c.data.toList) (hl : c.data.toList.length ≤ 9223372036854775807) (W : World) :
    (Op.stringOp .add a b).run P W = .ok (.string c) W := by
  have e1 : a.data.toList.length = a.size := by simp
  have e2 : b.data.toList.length = b.size := by simp
  rw [← h, List.length_append, e1, e2] at hl
  rw [run_string_add_sum]
  · congr 2
    apply ext_of
    rw [← h]
    simp
  · exact hl
theorem dec_small (j : Nat) (h : j < 10) : Lib.decDigits j = [UInt8.ofNat (48 + j % 10)] := by
  rw [Lib.decDigits_one h, Nat.mod_eq_of_lt h]
theorem dec_step (j : Nat) (h : ¬ j < 10) : Lib.decDigits j = Lib.decDigits (j / 10) ++ [UInt8.ofNat (48 + j % 10)] := by
  rw [Lib.decDigits, dif_neg h]

/-- what is done when j is what is left: o -/
def Rel (k j : Nat) (o : List UInt8) : Prop := (if j = 0 then [] else Lib.decDigits j) ++ o = Lib.decDigits k
theorem Rel.next {k j : Nat} {o : List UInt8} (h : Rel k j o) (hj : 0 < j) : Rel k (j / 10) (UInt8.ofNat (48 + j % 10) :: o) := by
  unfold Rel at h ⊢
  rw [if_neg (by omega)] at h
  by_cases h10 : j < 10
  · rw [if_pos (by omega)]
    rw [dec_small j h10] at h
    exact h
  · rw [if_neg (by omega)]
    rw [dec_step j h10, List.append_assoc] at h
    exact h
theorem Rel.len {k j : Nat} {o : List UInt8} (h : Rel k j o) (hk : k ≤ 1000000000) : o.length ≤ 20 := by
  have h1 := congrArg List.length h
  rw [List.length_append, Lib.decDigits_length] at h1
  have := Lib.nDigits_le20 k (by omega)
  omega
theorem byte_num (j : Nat) : ((UInt8.ofNat (48 + j % 10)).toNat : Int) = 48 + (j : Int) % 10 := by
  rw [UInt8.toNat_ofNat']; omega

theorem conv_one {P : Program} (W : World) (src dst e : TypeId) (c : UInt8) (hs : P.underlying src = some (.slice e)) (he : P.underlying e = some (.int .u8)) (hd : P.underlying dst = some .string) :
    (convert src dst (.slice (some ⟨W.heap.size, 0, none⟩) 1 1)).run P (W.alloc (.cells #[.int .u8 (c.toNat : Int)] e)) = .ok (.string ⟨#[c]⟩) (W.alloc (.cells #[.int .u8 (c.toNat : Int)] e)) := by
  have := run_convert_bytes_back (P := P) (W.alloc (.cells #[.int .u8 (c.toNat : Int)] e)) src dst e ⟨W.heap.size, 0, none⟩ 1 [c] hs he hd (fun j hj => by
    have : j = 0 := by simpa using hj
    subst this
    rw [show (⟨W.heap.size, 0, none⟩ : Addr).add 0 = ⟨W.heap.size, 0, none⟩ from rfl, World.cell?_alloc_new]
    rfl)
  exact this

set_option maxHeartbeats 1000000 in
theorem markText_any (k : Nat) (w : World) (h1 : 1 ≤ k) (h2 : k ≤ 1000000000) :
    Calls Tryd.prog 55 #[.int .i64 (k : Int)] w fun e w' => e = .returned (.string (mt k)) ∧ Below w.heap.size w w' := by
  have hk0 : decide (k = 0) = false := by simp; omega
  go_enter Tryd.func55, Tryd.ntmps55
  go_wp2
  go_loopw [0, 3] (fun t o wr => ∃ (j : Nat) (q : ByteArray), j ≤ k ∧ t = .int .i64 j ∧ o = .string q ∧ Hid (Rel k j q.data.toList) ∧ Hid (Below w.heap.size w wr)) (fun t _ _ => (intOf t).toNat)
  case atStart => exact ⟨k, ⟨#[]⟩, Nat.le_refl _, rfl, rfl, Lib.hid (by unfold Rel; rw [if_neg (by omega)]; simp), Lib.hid (Below.refl _ _)⟩
  case round =>
    obtain ⟨j, q, hjk, rfl, rfl, HR, HB⟩ := hrel
    by_cases hj : 0 < j
    · obtain ⟨ch, hch, HN⟩ : ∃ ch : UInt8, (ch.toNat : Int) = 48 + (j : Int) % 10 ∧ Hid (Rel k (j / 10) (ch :: q.data.toList)) := ⟨_, byte_num j, HR.out.next hj⟩
      have hadd := add_str (P := Tryd.prog) ⟨#[ch]⟩ q ⟨(ch :: q.data.toList).toArray⟩ rfl (by have := HN.out.len h2; show (ch :: q.data.toList).length ≤ _; omega)
      have hcv := fun W => conv_one (P := Tryd.prog) W 42 9 5 ch Tryd.underlying42 Tryd.underlying5 Tryd.underlying9
      rw [hch] at hcv
      have HB3 := Lib.hid (HB.out.alloc HB.out.size (.cells #[.int .u8 (48 + (j : Int) % 10)] 5))
      clear hch
      go_wp2
      go_roundw
      case rel => exact ⟨j / 10, _, by omega, by go_num, rfl, HN, HB3⟩
      case measure => simp [intOf]; omega
    · obtain rfl : j = 0 := by omega
      have hfin : q.data.toList = Lib.decDigits k := HR.out
      have HF := Lib.hid hfin
      have hadd := add_str (P := Tryd.prog) ⟨#[109]⟩ q (mt k) (by unfold mt; rw [hfin]; rfl) (by have := HR.out.len h2; rw [hfin] at this; show (109 :: Lib.decDigits k).length ≤ _; rw [List.length_cons]; omega)
      clear hfin
      go_wp2
      go_ret
      exact ⟨rfl, HB.out⟩

/-- the marks k, k + 1, .. -/
def marks (k n : Nat) : List Value := (List.range n).map fun i => Value.string (mt (k + i))
theorem marks_len (k n : Nat) : (marks k n).length = n := by simp [marks]
theorem marks_at (k n i : Nat) (h : i < n) : (marks k n)[i]? = some (.string (mt (k + i))) := by
  unfold marks; rw [List.getElem?_map, List.getElem?_range h]; rfl
theorem grown_of {W W' : World} (h : Below W.heap.size W W') : W.grownBy W' none := ⟨h.os, h.tape, h.output, h.size, fun k hk _ => h.block k hk⟩
theorem grown_weak {W W' : World} (h : W.grownBy W' none) (g : Nat) : W.grownBy W' (some g) := ⟨h.os, h.tape, h.output, h.size, fun k hk _ => h.block k hk (by simp)⟩
theorem grown_tr {a b c : World} {r : Option Nat} (h : a.grownBy b r) (k : b.grownBy c r) : a.grownBy c r :=
  ⟨k.os.trans h.os, k.tape.trans h.tape, k.output.trans h.output, Nat.le_trans h.size k.size, fun i hi hr => (k.block i (Nat.lt_of_lt_of_le hi h.size) hr).trans (h.block i hi hr)⟩

def MarkRel (w : World) (base g n c k : Nat) (xs : List Value) (i : Nat) (wr : World) : Prop :=
  wr.ownsRow base 9 1 (.slice (some ⟨g, 0, none⟩) n c) n (fill (marks k n) xs i) ∧ w.grownBy wr (some g)

theorem mark_next {w wr w1 : World} {base g n c k i : Nat} {xs : List Value} (h : MarkRel w base g n c k xs i wr) (hb : Below wr.heap.size wr w1) (hxs : xs.length = n) (hi : i < n) :
    ∃ y, w1.cell? ⟨g, i, none⟩ = some y ∧ w1.frozen? ⟨g, i, none⟩ = false ∧ MarkRel w base g n c k xs (i + 1) (w1.setCell ⟨g, i, none⟩ (.string (mt (k + i)))) := by
  have hk := grown_of hb
  have h1 : w1.ownsRow base 9 1 (.slice (some ⟨g, 0, none⟩) n c) n (fill (marks k n) xs i) := h.1.kept hk (.inr (by simp [Value.ownBlock]))
  have hlen : (fill (marks k n) xs i).length = n := by rw [fill_len _ _ _ (by rw [marks_len, hxs])]; exact hxs
  have hc := h1.cellAt i (by omega)
  rw [List.getElem?_eq_getElem (by omega)] at hc
  refine ⟨_, hc, h1.frozenAt i, ?_, ?_⟩
  · have := (h1.stored i (.string (mt (k + i)))).1
    rw [fill_set _ _ _ _ (by omega) (marks_at k n i hi)] at this
    exact this
  · exact grown_tr h.2 (grown_tr (grown_weak hk g) (h1.stored i (.string (mt (k + i)))).2)

def MarkPost (w : World) (base g n c k : Nat) (e : Ending) (w' : World) : Prop :=
  e = .returned (.int .i64 ((k + n : Nat) : Int)) ∧ w'.ownsRow base 9 1 (.slice (some ⟨g, 0, none⟩) n c) n (marks k n) ∧ w.grownBy w' (some g)


def HeldPost (w : World) (k n : Nat) (e : Ending) (w' : World) : Prop := e = .returned (.int .i64 ((k + n : Nat) : Int)) ∧ Below w.heap.size w w'

end Go.Proofs.YtgimcnpkngpmiaaDoor.MarkStr

/- markText as a plain function, from 1 to a billion; the contract of the program's. No condition. -/
namespace Go.Proofs.YtgimcnpkngpmiaaDoor.GlMarkText
set_option linter.unusedVariables false
open Go.RowKit
open Go.Proofs.YtgimcnpkngpmiaaDoor.Turn
def P (k : Int) : Option ByteArray := if 1 ≤ k ∧ k ≤ 1000000000 then some (Go.Proofs.YtgimcnpkngpmiaaDoor.MarkStr.mt k.toNat) else none
theorem C (k : Int) (w : World) {r : ByteArray} (H : Hid (P k = some r)) : Calls Tryd.prog 55 #[.int .i64 k] w (Gives (.string r) w) := by
  have h : P k = some r := H
  unfold P at h
  by_cases hk : 1 ≤ k ∧ k ≤ 1000000000
  · rw [if_pos hk] at h
    obtain rfl := Option.some.inj h
    obtain ⟨n, rfl⟩ := Int.eq_ofNat_of_zero_le (show 0 ≤ k by omega)
    exact Go.Proofs.YtgimcnpkngpmiaaDoor.MarkStr.markText_any n w (by omega) (by omega)
  · rw [if_neg hk] at h; simp at h
end Go.Proofs.YtgimcnpkngpmiaaDoor.GlMarkText

/- loop.example/g01062/laws.markPostmarkS as a plain function, and the contract of the program's: where the plain one has an answer, the program has it. Conditions: slices read as lists. -/
namespace Go.Proofs.YtgimcnpkngpmiaaDoor.GlMarkPostmarkS
set_option linter.unusedVariables false
set_option linter.unusedSimpArgs false
open Go.RowKit
open Go.Proofs.YtgimcnpkngpmiaaDoor.Rowed Go.Proofs.YtgimcnpkngpmiaaDoor.Turn Go.Proofs.YtgimcnpkngpmiaaDoor.Aid Go.Proofs.YtgimcnpkngpmiaaDoor.GoP Go.Proofs.YtgimcnpkngpmiaaDoor.GoM

def l0  (k0 : Nat) (s : (List Go.Proofs.YtgimcnpkngpmiaaDoor.PPostmark.Postmark) × Int) (nx0 bk0 : (List Go.Proofs.YtgimcnpkngpmiaaDoor.PPostmark.Postmark) × Int → Option (Int × (List Go.Proofs.YtgimcnpkngpmiaaDoor.PPostmark.Postmark))) : Option (Int × (List Go.Proofs.YtgimcnpkngpmiaaDoor.PPostmark.Postmark)) :=
  unp2 s fun a_0l0 k_1l0 =>
  Option.bind (idx a_0l0 (k0 : Int)) fun (yt_9 : Go.Proofs.YtgimcnpkngpmiaaDoor.PPostmark.Postmark) =>
  unPostmark yt_9 fun (t_9_id : Int) (t_9_town : ByteArray) (t_9_kind_ : Int) (t_9_first : Int) (t_9_last : Int) (t_9_lost : ByteArray) =>
  letK (a_0l0.set k0 (Go.Proofs.YtgimcnpkngpmiaaDoor.PPostmark.Postmark.mk k_1l0 t_9_town t_9_kind_ t_9_first t_9_last t_9_lost)) fun (l11_11 : (List Go.Proofs.YtgimcnpkngpmiaaDoor.PPostmark.Postmark)) =>
  letK (IntKind.i64.wrap (k_1l0 + 1)) fun (t_13 : Int) =>
  Option.bind (Go.Proofs.YtgimcnpkngpmiaaDoor.GlMarkText.P t_13) fun (t_18 : ByteArray) =>
  Option.bind (idx l11_11 (k0 : Int)) fun (yt_19 : Go.Proofs.YtgimcnpkngpmiaaDoor.PPostmark.Postmark) =>
  unPostmark yt_19 fun (t_19_id : Int) (t_19_town : ByteArray) (t_19_kind_ : Int) (t_19_first : Int) (t_19_last : Int) (t_19_lost : ByteArray) =>
  letK (l11_11.set k0 (Go.Proofs.YtgimcnpkngpmiaaDoor.PPostmark.Postmark.mk t_19_id t_18 t_19_kind_ t_19_first t_19_last t_19_lost)) fun (l21_21 : (List Go.Proofs.YtgimcnpkngpmiaaDoor.PPostmark.Postmark)) =>
  letK (IntKind.i64.wrap (t_13 + 1)) fun (t_23 : Int) =>
  Option.bind (idx l21_21 (k0 : Int)) fun (yt_28 : Go.Proofs.YtgimcnpkngpmiaaDoor.PPostmark.Postmark) =>
  unPostmark yt_28 fun (t_28_id : Int) (t_28_town : ByteArray) (t_28_kind_ : Int) (t_28_first : Int) (t_28_last : Int) (t_28_lost : ByteArray) =>
  letK (l21_21.set k0 (Go.Proofs.YtgimcnpkngpmiaaDoor.PPostmark.Postmark.mk t_28_id t_28_town t_23 t_28_first t_28_last t_28_lost)) fun (l30_30 : (List Go.Proofs.YtgimcnpkngpmiaaDoor.PPostmark.Postmark)) =>
  letK (IntKind.i64.wrap (t_23 + 1)) fun (t_32 : Int) =>
  Option.bind (idx l30_30 (k0 : Int)) fun (yt_37 : Go.Proofs.YtgimcnpkngpmiaaDoor.PPostmark.Postmark) =>
  unPostmark yt_37 fun (t_37_id : Int) (t_37_town : ByteArray) (t_37_kind_ : Int) (t_37_first : Int) (t_37_last : Int) (t_37_lost : ByteArray) =>
  letK (l30_30.set k0 (Go.Proofs.YtgimcnpkngpmiaaDoor.PPostmark.Postmark.mk t_37_id t_37_town t_37_kind_ t_32 t_37_last t_37_lost)) fun (l39_39 : (List Go.Proofs.YtgimcnpkngpmiaaDoor.PPostmark.Postmark)) =>
  letK (IntKind.i64.wrap (t_32 + 1)) fun (t_41 : Int) =>
  Option.bind (idx l39_39 (k0 : Int)) fun (yt_46 : Go.Proofs.YtgimcnpkngpmiaaDoor.PPostmark.Postmark) =>
  unPostmark yt_46 fun (t_46_id : Int) (t_46_town : ByteArray) (t_46_kind_ : Int) (t_46_first : Int) (t_46_last : Int) (t_46_lost : ByteArray) =>
  letK (l39_39.set k0 (Go.Proofs.YtgimcnpkngpmiaaDoor.PPostmark.Postmark.mk t_46_id t_46_town t_46_kind_ t_46_first t_41 t_46_lost)) fun (l48_48 : (List Go.Proofs.YtgimcnpkngpmiaaDoor.PPostmark.Postmark)) =>
  letK (IntKind.i64.wrap (t_41 + 1)) fun (t_50 : Int) =>
  Option.bind (Go.Proofs.YtgimcnpkngpmiaaDoor.GlMarkText.P t_50) fun (t_55 : ByteArray) =>
  Option.bind (idx l48_48 (k0 : Int)) fun (yt_56 : Go.Proofs.YtgimcnpkngpmiaaDoor.PPostmark.Postmark) =>
  unPostmark yt_56 fun (t_56_id : Int) (t_56_town : ByteArray) (t_56_kind_ : Int) (t_56_first : Int) (t_56_last : Int) (t_56_lost : ByteArray) =>
  letK (l48_48.set k0 (Go.Proofs.YtgimcnpkngpmiaaDoor.PPostmark.Postmark.mk t_56_id t_56_town t_56_kind_ t_56_first t_56_last t_55)) fun (l58_58 : (List Go.Proofs.YtgimcnpkngpmiaaDoor.PPostmark.Postmark)) =>
  letK (IntKind.i64.wrap (t_50 + 1)) fun (t_60 : Int) =>
  appK nx0 (l58_58, t_60)

def e0  (s : (List Go.Proofs.YtgimcnpkngpmiaaDoor.PPostmark.Postmark) × Int) : Option (Int × (List Go.Proofs.YtgimcnpkngpmiaaDoor.PPostmark.Postmark)) :=
  unp2 s fun a_0l0 k_1l0 =>
  some (k_1l0, a_0l0)

def P (a : (List Go.Proofs.YtgimcnpkngpmiaaDoor.PPostmark.Postmark)) (k_1 : Int) : Option (Int × (List Go.Proofs.YtgimcnpkngpmiaaDoor.PPostmark.Postmark)) :=
  cntK (l0 ) (a.length) 0 (a, k_1) (e0 )

set_option maxRecDepth 100000 in
set_option maxHeartbeats 2000000 in
theorem C (a : (List Go.Proofs.YtgimcnpkngpmiaaDoor.PPostmark.Postmark)) (k_1 : Int) (A0 : Option Addr) (c0 : Nat)  (b0 : Nat) (w : World) (M0 : Hid (w.ownsRow b0 39 6 (.slice A0 a.length c0) a.length (Go.Proofs.YtgimcnpkngpmiaaDoor.PPostmark.flat a))) (N0 : Hid (a.length ≤ 9223372036854775807))  {r : Int} {l_ : (List Go.Proofs.YtgimcnpkngpmiaaDoor.PPostmark.Postmark)} (H : Hid (P a k_1 = some (r, l_))) :
    Calls Tryd.prog 12 #[.slice A0 a.length c0, .int .i64 k_1] w (fun e w' => e = .returned (.int .i64 r) ∧ w'.ownsRow b0 39 6 (.slice A0 a.length c0) a.length (Go.Proofs.YtgimcnpkngpmiaaDoor.PPostmark.flat l_) ∧ l_.length = a.length ∧ w.grownBy w' (Value.slice A0 a.length c0).ownBlock) := by
  have HB := Lib.hid (Aid.grown_refl w (Value.slice A0 a.length c0).ownBlock)
  unfold P at H
  have N0o := N0.out
  go_enter Tryd.func12, Tryd.ntmps12
  go_wp2_with fail
  have hb_0 : a.length ≤ 9223372036854775807 := own_max M0.out
  go_wp2_with fail
  go_loopg [5, 1] (a.length) (fun m_ v5_ v1_ wr => ∃ (k0 : Nat) (a_0l0 : (List Go.Proofs.YtgimcnpkngpmiaaDoor.PPostmark.Postmark)) (k_1l0 : Int), k0 + m_ = a.length ∧ v5_ = .int .i64 (k0 : Int) ∧ v1_ = .int .i64 k_1l0 ∧ Hid (cntK (l0 ) m_ k0 (a_0l0, k_1l0) (e0 ) = some (r, l_)) ∧ Hid (w.grownBy wr (Value.slice A0 a.length c0).ownBlock) ∧ Hid (wr.ownsRow b0 39 6 (.slice A0 a.length c0) a.length (Go.Proofs.YtgimcnpkngpmiaaDoor.PPostmark.flat a_0l0)) ∧ Hid (a_0l0.length = a.length))
  case atStart => exact ⟨0, _, _, by omega, rfl, rfl, H, HB, M0, Lib.hid (rfl)⟩
  case round =>
    obtain ⟨k0, a_0l0, k_1l0, hkm0, rfl, rfl, H, HBwr0, Oa_0l0, hna_0l0⟩ := hrel
    rename World => wr0
    cases gk with
    | zero =>
      obtain rfl : k0 = a.length := by omega
      have hc0 : decide (((a.length : Nat) : Int) < ((a.length : Nat) : Int)) = false := by simp
      replace H := cnt_zero H
      unfold e0 at H
      replace H := unp2_hid H
      cases ret_hid H
      go_wp2_with fail
      go_ret
      exact ⟨rfl, Oa_0l0.out, hna_0l0.out, HBwr0.out⟩
    | succ m0 =>
      have hlt0 : k0 < a.length := by omega
      have hc0 : decide ((k0 : Int) < ((a.length : Nat) : Int)) = true := by simp; omega
      replace H := cnt_succ H
      unfold l0 at H
      replace H := unp2_hid H
      replace H := idx_hid H
      obtain ⟨nt_9, yt_9, et_9, lt_9, gt_9, H⟩ := H
      obtain rfl : k0 = nt_9 := by omega
      clear et_9
      obtain ⟨t_9_id, t_9_town, t_9_kind_, t_9_first, t_9_last, t_9_lost⟩ := yt_9
      replace H := unPostmark_hid H
      have hqt_9 := hna_0l0.out
      obtain ⟨qt_9, Qt_9⟩ := own_some Oa_0l0.out (by omega)
      subst Qt_9
      obtain ⟨ab_t_9, ao_t_9, zt_9, At_9, z_t_9, ct_9_0, ct_9_1, ct_9_2, ct_9_3, ct_9_4, ct_9_5⟩ := Go.Proofs.YtgimcnpkngpmiaaDoor.OPostmark.at_ (own_cells Oa_0l0.out) (k := k0) (by omega)
      obtain rfl := Option.some.inj (gt_9.out.symm.trans z_t_9)
      simp only [Option.some.injEq, Addr.mk.injEq] at At_9
      obtain ⟨rfl, rfl, _⟩ := At_9
      clear z_t_9
      simp only [Nat.zero_add] at ct_9_0 ct_9_1 ct_9_2 ct_9_3 ct_9_4 ct_9_5
      have b0t_9 : (0 : Int) ≤ (k0 : Int) := by omega
      have b1t_9 : (k0 : Int) < ((a.length : Nat) : Int) := by omega
      have b2t_9 : ((k0 : Int)).toNat = k0 := by omega
      clear hqt_9
      replace H := let_hid H
      obtain ⟨l11_11, hl11_11, H⟩ := H
      try simp only [Int.toNat_natCast] at hl11_11
      obtain ⟨wl11_11, hwl11_11⟩ : ∃ x, (wr0).setCell ⟨qt_9, k0 * 6, none⟩ (.int .i64 k_1l0) = x := ⟨_, rfl⟩
      have z0l11_11 := Oa_0l0.out.frozenAt (k0 * 6)
      have Sl11_11 := Lib.hid (own_stores [(k0 * 6, .int .i64 k_1l0)] Oa_0l0.out)
      have nl11_11 : Hid (l11_11.length = a.length) := Lib.hid (by rw [← hl11_11, List.length_set]; exact hna_0l0.out)
      have Pl11_11 : Hid (wl11_11.ownsRow b0 39 6 (.slice (some ⟨qt_9, 0, none⟩) a.length c0) a.length (Go.Proofs.YtgimcnpkngpmiaaDoor.PPostmark.flat l11_11)) := Lib.hid (by have es_ := set_self gt_9.out; have e0_ := flat_set Go.Proofs.YtgimcnpkngpmiaaDoor.PPostmark.Postmark.cells 6 (fun _ => rfl) a_0l0 (k0) 0 (Go.Proofs.YtgimcnpkngpmiaaDoor.PPostmark.Postmark.mk t_9_id t_9_town t_9_kind_ t_9_first t_9_last t_9_lost) (Go.Proofs.YtgimcnpkngpmiaaDoor.PPostmark.Postmark.mk k_1l0 t_9_town t_9_kind_ t_9_first t_9_last t_9_lost) (.int .i64 k_1l0) lt_9 (by decide) rfl; rw [es_] at e0_; have e_ : ([(k0 * 6, .int .i64 k_1l0)] : List (Nat × Value)).foldl (fun xs p => xs.set p.1 p.2) (Go.Proofs.YtgimcnpkngpmiaaDoor.PPostmark.flat a_0l0) = (Go.Proofs.YtgimcnpkngpmiaaDoor.PPostmark.flat l11_11) := (by rw [← hl11_11]; show _ = List.flatMap Go.Proofs.YtgimcnpkngpmiaaDoor.PPostmark.Postmark.cells _; first | (rw [← e0_]; first | done | rfl)); rw [← hwl11_11, ← e_]; exact Sl11_11.out.1)
      have Gl11_11 : Hid (wr0.grownBy wl11_11 (Value.slice (some ⟨qt_9, 0, none⟩) a.length c0).ownBlock) := Lib.hid (by rw [← hwl11_11]; exact Sl11_11.out.2)
      have HBwl11_11 := Lib.hid (Aid.grown_tr HBwr0.out Gl11_11.out)
      have hhl11_11 := Lib.hid hl11_11
      clear hl11_11 Sl11_11
      clear Oa_0l0 Gl11_11
      replace H := let_hid H
      obtain ⟨t_13, ht_13, H⟩ := H
      replace H := bind_hid H
      obtain ⟨t_18, qt_18, H⟩ := H
      go_wp2_with fail
      clear z0l11_11 ct_9_0 ct_9_1 ct_9_2 ct_9_3 ct_9_4 ct_9_5
      go_at_call 55
      refine (Go.Proofs.YtgimcnpkngpmiaaDoor.GlMarkText.C (t_13)  _    qt_18).mono ?_
      rintro e_t_18 wt_18 ⟨rfl, bt_18⟩
      have HBwt_18 := Lib.hid (grown_below HBwl11_11.out bt_18)
      replace Pl11_11 := Lib.hid (own_below Pl11_11.out bt_18)
      clear bt_18
      replace H := idx_hid H
      obtain ⟨nt_19, yt_19, et_19, lt_19, gt_19, H⟩ := H
      obtain rfl : k0 = nt_19 := by omega
      clear et_19
      obtain ⟨t_19_id, t_19_town, t_19_kind_, t_19_first, t_19_last, t_19_lost⟩ := yt_19
      replace H := unPostmark_hid H
      have hqt_19 := nl11_11.out
      obtain ⟨ab_t_19, ao_t_19, zt_19, At_19, z_t_19, ct_19_0, ct_19_1, ct_19_2, ct_19_3, ct_19_4, ct_19_5⟩ := Go.Proofs.YtgimcnpkngpmiaaDoor.OPostmark.at_ (own_cells Pl11_11.out) (k := k0) (by omega)
      obtain rfl := Option.some.inj (gt_19.out.symm.trans z_t_19)
      simp only [Option.some.injEq, Addr.mk.injEq] at At_19
      obtain ⟨rfl, rfl, _⟩ := At_19
      clear z_t_19
      simp only [Nat.zero_add] at ct_19_0 ct_19_1 ct_19_2 ct_19_3 ct_19_4 ct_19_5
      have b0t_19 : (0 : Int) ≤ (k0 : Int) := by omega
      have b1t_19 : (k0 : Int) < ((a.length : Nat) : Int) := by omega
      have b2t_19 : ((k0 : Int)).toNat = k0 := by omega
      clear hqt_19
      replace H := let_hid H
      obtain ⟨l21_21, hl21_21, H⟩ := H
      try simp only [Int.toNat_natCast] at hl21_21
      obtain ⟨wl21_21, hwl21_21⟩ : ∃ x, (wt_18).setCell ⟨qt_9, k0 * 6 + 1, none⟩ (.string t_18) = x := ⟨_, rfl⟩
      have z0l21_21 := Pl11_11.out.frozenAt (k0 * 6 + 1)
      have Sl21_21 := Lib.hid (own_stores [(k0 * 6 + 1, .string t_18)] Pl11_11.out)
      have nl21_21 : Hid (l21_21.length = a.length) := Lib.hid (by rw [← hl21_21, List.length_set]; exact nl11_11.out)
      have Pl21_21 : Hid (wl21_21.ownsRow b0 39 6 (.slice (some ⟨qt_9, 0, none⟩) a.length c0) a.length (Go.Proofs.YtgimcnpkngpmiaaDoor.PPostmark.flat l21_21)) := Lib.hid (by have es_ := set_self gt_19.out; have e0_ := flat_set Go.Proofs.YtgimcnpkngpmiaaDoor.PPostmark.Postmark.cells 6 (fun _ => rfl) l11_11 (k0) 1 (Go.Proofs.YtgimcnpkngpmiaaDoor.PPostmark.Postmark.mk t_19_id t_19_town t_19_kind_ t_19_first t_19_last t_19_lost) (Go.Proofs.YtgimcnpkngpmiaaDoor.PPostmark.Postmark.mk t_19_id t_18 t_19_kind_ t_19_first t_19_last t_19_lost) (.string t_18) lt_19 (by decide) rfl; rw [es_] at e0_; have e_ : ([(k0 * 6 + 1, .string t_18)] : List (Nat × Value)).foldl (fun xs p => xs.set p.1 p.2) (Go.Proofs.YtgimcnpkngpmiaaDoor.PPostmark.flat l11_11) = (Go.Proofs.YtgimcnpkngpmiaaDoor.PPostmark.flat l21_21) := (by rw [← hl21_21]; show _ = List.flatMap Go.Proofs.YtgimcnpkngpmiaaDoor.PPostmark.Postmark.cells _; first | (rw [← e0_]; first | done | rfl)); rw [← hwl21_21, ← e_]; exact Sl21_21.out.1)
      have Gl21_21 : Hid (wt_18.grownBy wl21_21 (Value.slice (some ⟨qt_9, 0, none⟩) a.length c0).ownBlock) := Lib.hid (by rw [← hwl21_21]; exact Sl21_21.out.2)
      have HBwl21_21 := Lib.hid (Aid.grown_tr HBwt_18.out Gl21_21.out)
      have hhl21_21 := Lib.hid hl21_21
      clear hl21_21 Sl21_21
      clear Pl11_11 Gl21_21
      replace H := let_hid H
      obtain ⟨t_23, ht_23, H⟩ := H
      replace H := idx_hid H
      obtain ⟨nt_28, yt_28, et_28, lt_28, gt_28, H⟩ := H
      obtain rfl : k0 = nt_28 := by omega
      clear et_28
      obtain ⟨t_28_id, t_28_town, t_28_kind_, t_28_first, t_28_last, t_28_lost⟩ := yt_28
      replace H := unPostmark_hid H
      have hqt_28 := nl21_21.out
      obtain ⟨ab_t_28, ao_t_28, zt_28, At_28, z_t_28, ct_28_0, ct_28_1, ct_28_2, ct_28_3, ct_28_4, ct_28_5⟩ := Go.Proofs.YtgimcnpkngpmiaaDoor.OPostmark.at_ (own_cells Pl21_21.out) (k := k0) (by omega)
      obtain rfl := Option.some.inj (gt_28.out.symm.trans z_t_28)
      simp only [Option.some.injEq, Addr.mk.injEq] at At_28
      obtain ⟨rfl, rfl, _⟩ := At_28
      clear z_t_28
      simp only [Nat.zero_add] at ct_28_0 ct_28_1 ct_28_2 ct_28_3 ct_28_4 ct_28_5
      have b0t_28 : (0 : Int) ≤ (k0 : Int) := by omega
      have b1t_28 : (k0 : Int) < ((a.length : Nat) : Int) := by omega
      have b2t_28 : ((k0 : Int)).toNat = k0 := by omega
      clear hqt_28
      replace H := let_hid H
      obtain ⟨l30_30, hl30_30, H⟩ := H
      try simp only [Int.toNat_natCast] at hl30_30
      obtain ⟨wl30_30, hwl30_30⟩ : ∃ x, (wl21_21).setCell ⟨qt_9, k0 * 6 + 2, none⟩ (.int .i64 t_23) = x := ⟨_, rfl⟩
      have z0l30_30 := Pl21_21.out.frozenAt (k0 * 6 + 2)
      have Sl30_30 := Lib.hid (own_stores [(k0 * 6 + 2, .int .i64 t_23)] Pl21_21.out)
      have nl30_30 : Hid (l30_30.length = a.length) := Lib.hid (by rw [← hl30_30, List.length_set]; exact nl21_21.out)
      have Pl30_30 : Hid (wl30_30.ownsRow b0 39 6 (.slice (some ⟨qt_9, 0, none⟩) a.length c0) a.length (Go.Proofs.YtgimcnpkngpmiaaDoor.PPostmark.flat l30_30)) := Lib.hid (by have es_ := set_self gt_28.out; have e0_ := flat_set Go.Proofs.YtgimcnpkngpmiaaDoor.PPostmark.Postmark.cells 6 (fun _ => rfl) l21_21 (k0) 2 (Go.Proofs.YtgimcnpkngpmiaaDoor.PPostmark.Postmark.mk t_28_id t_28_town t_28_kind_ t_28_first t_28_last t_28_lost) (Go.Proofs.YtgimcnpkngpmiaaDoor.PPostmark.Postmark.mk t_28_id t_28_town t_23 t_28_first t_28_last t_28_lost) (.int .i64 t_23) lt_28 (by decide) rfl; rw [es_] at e0_; have e_ : ([(k0 * 6 + 2, .int .i64 t_23)] : List (Nat × Value)).foldl (fun xs p => xs.set p.1 p.2) (Go.Proofs.YtgimcnpkngpmiaaDoor.PPostmark.flat l21_21) = (Go.Proofs.YtgimcnpkngpmiaaDoor.PPostmark.flat l30_30) := (by rw [← hl30_30]; show _ = List.flatMap Go.Proofs.YtgimcnpkngpmiaaDoor.PPostmark.Postmark.cells _; first | (rw [← e0_]; first | done | rfl)); rw [← hwl30_30, ← e_]; exact Sl30_30.out.1)
      have Gl30_30 : Hid (wl21_21.grownBy wl30_30 (Value.slice (some ⟨qt_9, 0, none⟩) a.length c0).ownBlock) := Lib.hid (by rw [← hwl30_30]; exact Sl30_30.out.2)
      have HBwl30_30 := Lib.hid (Aid.grown_tr HBwl21_21.out Gl30_30.out)
      have hhl30_30 := Lib.hid hl30_30
      clear hl30_30 Sl30_30
      clear Pl21_21 Gl30_30
      replace H := let_hid H
      obtain ⟨t_32, ht_32, H⟩ := H
      replace H := idx_hid H
      obtain ⟨nt_37, yt_37, et_37, lt_37, gt_37, H⟩ := H
      obtain rfl : k0 = nt_37 := by omega
      clear et_37
      obtain ⟨t_37_id, t_37_town, t_37_kind_, t_37_first, t_37_last, t_37_lost⟩ := yt_37
      replace H := unPostmark_hid H
      have hqt_37 := nl30_30.out
      obtain ⟨ab_t_37, ao_t_37, zt_37, At_37, z_t_37, ct_37_0, ct_37_1, ct_37_2, ct_37_3, ct_37_4, ct_37_5⟩ := Go.Proofs.YtgimcnpkngpmiaaDoor.OPostmark.at_ (own_cells Pl30_30.out) (k := k0) (by omega)
      obtain rfl := Option.some.inj (gt_37.out.symm.trans z_t_37)
      simp only [Option.some.injEq, Addr.mk.injEq] at At_37
      obtain ⟨rfl, rfl, _⟩ := At_37
      clear z_t_37
      simp only [Nat.zero_add] at ct_37_0 ct_37_1 ct_37_2 ct_37_3 ct_37_4 ct_37_5
      have b0t_37 : (0 : Int) ≤ (k0 : Int) := by omega
      have b1t_37 : (k0 : Int) < ((a.length : Nat) : Int) := by omega
      have b2t_37 : ((k0 : Int)).toNat = k0 := by omega
      clear hqt_37
      replace H := let_hid H
      obtain ⟨l39_39, hl39_39, H⟩ := H
      try simp only [Int.toNat_natCast] at hl39_39
      obtain ⟨wl39_39, hwl39_39⟩ : ∃ x, (wl30_30).setCell ⟨qt_9, k0 * 6 + 3, none⟩ (.int .i64 t_32) = x := ⟨_, rfl⟩
      have z0l39_39 := Pl30_30.out.frozenAt (k0 * 6 + 3)
      have Sl39_39 := Lib.hid (own_stores [(k0 * 6 + 3, .int .i64 t_32)] Pl30_30.out)
      have nl39_39 : Hid (l39_39.length = a.length) := Lib.hid (by rw [← hl39_39, List.length_set]; exact nl30_30.out)
      have Pl39_39 : Hid (wl39_39.ownsRow b0 39 6 (.slice (some ⟨qt_9, 0, none⟩) a.length c0) a.length (Go.Proofs.YtgimcnpkngpmiaaDoor.PPostmark.flat l39_39)) := Lib.hid (by have es_ := set_self gt_37.out; have e0_ := flat_set Go.Proofs.YtgimcnpkngpmiaaDoor.PPostmark.Postmark.cells 6 (fun _ => rfl) l30_30 (k0) 3 (Go.Proofs.YtgimcnpkngpmiaaDoor.PPostmark.Postmark.mk t_37_id t_37_town t_37_kind_ t_37_first t_37_last t_37_lost) (Go.Proofs.YtgimcnpkngpmiaaDoor.PPostmark.Postmark.mk t_37_id t_37_town t_37_kind_ t_32 t_37_last t_37_lost) (.int .i64 t_32) lt_37 (by decide) rfl; rw [es_] at e0_; have e_ : ([(k0 * 6 + 3, .int .i64 t_32)] : List (Nat × Value)).foldl (fun xs p => xs.set p.1 p.2) (Go.Proofs.YtgimcnpkngpmiaaDoor.PPostmark.flat l30_30) = (Go.Proofs.YtgimcnpkngpmiaaDoor.PPostmark.flat l39_39) := (by rw [← hl39_39]; show _ = List.flatMap Go.Proofs.YtgimcnpkngpmiaaDoor.PPostmark.Postmark.cells _; first | (rw [← e0_]; first | done | rfl)); rw [← hwl39_39, ← e_]; exact Sl39_39.out.1)
      have Gl39_39 : Hid (wl30_30.grownBy wl39_39 (Value.slice (some ⟨qt_9, 0, none⟩) a.length c0).ownBlock) := Lib.hid (by rw [← hwl39_39]; exact Sl39_39.out.2)
      have HBwl39_39 := Lib.hid (Aid.grown_tr HBwl30_30.out Gl39_39.out)
      have hhl39_39 := Lib.hid hl39_39
      clear hl39_39 Sl39_39
      clear Pl30_30 Gl39_39
      replace H := let_hid H
      obtain ⟨t_41, ht_41, H⟩ := H
      replace H := idx_hid H
      obtain ⟨nt_46, yt_46, et_46, lt_46, gt_46, H⟩ := H
      obtain rfl : k0 = nt_46 := by omega
      clear et_46
      obtain ⟨t_46_id, t_46_town, t_46_kind_, t_46_first, t_46_last, t_46_lost⟩ := yt_46
      replace H := unPostmark_hid H
      have hqt_46 := nl39_39.out
      obtain ⟨ab_t_46, ao_t_46, zt_46, At_46, z_t_46, ct_46_0, ct_46_1, ct_46_2, ct_46_3, ct_46_4, ct_46_5⟩ := Go.Proofs.YtgimcnpkngpmiaaDoor.OPostmark.at_ (own_cells Pl39_39.out) (k := k0) (by omega)
      obtain rfl := Option.some.inj (gt_46.out.symm.trans z_t_46)
      simp only [Option.some.injEq, Addr.mk.injEq] at At_46
      obtain ⟨rfl, rfl, _⟩ := At_46
      clear z_t_46
      simp only [Nat.zero_add] at ct_46_0 ct_46_1 ct_46_2 ct_46_3 ct_46_4 ct_46_5
      have b0t_46 : (0 : Int) ≤ (k0 : Int) := by omega
      have b1t_46 : (k0 : Int) < ((a.length : Nat) : Int) := by omega
      have b2t_46 : ((k0 : Int)).toNat = k0 := by omega
      clear hqt_46
      replace H := let_hid H
      obtain ⟨l48_48, hl48_48, H⟩ := H
      try simp only [Int.toNat_natCast] at hl48_48
      obtain ⟨wl48_48, hwl48_48⟩ : ∃ x, (wl39_39).setCell ⟨qt_9, k0 * 6 + 4, none⟩ (.int .i64 t_41) = x := ⟨_, rfl⟩
      have z0l48_48 := Pl39_39.out.frozenAt (k0 * 6 + 4)
      have Sl48_48 := Lib.hid (own_stores [(k0 * 6 + 4, .int .i64 t_41)] Pl39_39.out)
      have nl48_48 : Hid (l48_48.length = a.length) := Lib.hid (by rw [← hl48_48, List.length_set]; exact nl39_39.out)
      have Pl48_48 : Hid (wl48_48.ownsRow b0 39 6 (.slice (some ⟨qt_9, 0, none⟩) a.length c0) a.length (Go.Proofs.YtgimcnpkngpmiaaDoor.PPostmark.flat l48_48)) := Lib.hid (by have es_ := set_self gt_46.out; have e0_ := flat_set Go.Proofs.YtgimcnpkngpmiaaDoor.PPostmark.Postmark.cells 6 (fun _ => rfl) l39_39 (k0) 4 (Go.Proofs.YtgimcnpkngpmiaaDoor.PPostmark.Postmark.mk t_46_id t_46_town t_46_kind_ t_46_first t_46_last t_46_lost) (Go.Proofs.YtgimcnpkngpmiaaDoor.PPostmark.Postmark.mk t_46_id t_46_town t_46_kind_ t_46_first t_41 t_46_lost) (.int .i64 t_41) lt_46 (by decide) rfl; rw [es_] at e0_; have e_ : ([(k0 * 6 + 4, .int .i64 t_41)] : List (Nat × Value)).foldl (fun xs p => xs.set p.1 p.2) (Go.Proofs.YtgimcnpkngpmiaaDoor.PPostmark.flat l39_39) = (Go.Proofs.YtgimcnpkngpmiaaDoor.PPostmark.flat l48_48) := (by rw [← hl48_48]; show _ = List.flatMap Go.Proofs.YtgimcnpkngpmiaaDoor.PPostmark.Postmark.cells _; first | (rw [← e0_]; first | done | rfl)); rw [← hwl48_48, ← e_]; exact Sl48_48.out.1)
      have Gl48_48 : Hid (wl39_39.grownBy wl48_48 (Value.slice (some ⟨qt_9, 0, none⟩) a.length c0).ownBlock) := Lib.hid (by rw [← hwl48_48]; exact Sl48_48.out.2)
      have HBwl48_48 := Lib.hid (Aid.grown_tr HBwl39_39.out Gl48_48.out)
      have hhl48_48 := Lib.hid hl48_48
      clear hl48_48 Sl48_48
      clear Pl39_39 Gl48_48
      replace H := let_hid H
      obtain ⟨t_50, ht_50, H⟩ := H
      replace H := bind_hid H
      obtain ⟨t_55, qt_55, H⟩ := H
      go_wp2_with fail
      clear z0l21_21 ct_19_0 ct_19_1 ct_19_2 ct_19_3 ct_19_4 ct_19_5 z0l30_30 ct_28_0 ct_28_1 ct_28_2 ct_28_3 ct_28_4 ct_28_5 z0l39_39 ct_37_0 ct_37_1 ct_37_2 ct_37_3 ct_37_4 ct_37_5 z0l48_48 ct_46_0 ct_46_1 ct_46_2 ct_46_3 ct_46_4 ct_46_5
      go_at_call 55
      refine (Go.Proofs.YtgimcnpkngpmiaaDoor.GlMarkText.C (t_50)  _    qt_55).mono ?_
      rintro e_t_55 wt_55 ⟨rfl, bt_55⟩
      have HBwt_55 := Lib.hid (grown_below HBwl48_48.out bt_55)
      replace Pl48_48 := Lib.hid (own_below Pl48_48.out bt_55)
      clear bt_55
      replace H := idx_hid H
      obtain ⟨nt_56, yt_56, et_56, lt_56, gt_56, H⟩ := H
      obtain rfl : k0 = nt_56 := by omega
      clear et_56
      obtain ⟨t_56_id, t_56_town, t_56_kind_, t_56_first, t_56_last, t_56_lost⟩ := yt_56
      replace H := unPostmark_hid H
      have hqt_56 := nl48_48.out
      obtain ⟨ab_t_56, ao_t_56, zt_56, At_56, z_t_56, ct_56_0, ct_56_1, ct_56_2, ct_56_3, ct_56_4, ct_56_5⟩ := Go.Proofs.YtgimcnpkngpmiaaDoor.OPostmark.at_ (own_cells Pl48_48.out) (k := k0) (by omega)
      obtain rfl := Option.some.inj (gt_56.out.symm.trans z_t_56)
      simp only [Option.some.injEq, Addr.mk.injEq] at At_56
      obtain ⟨rfl, rfl, _⟩ := At_56
      clear z_t_56
      simp only [Nat.zero_add] at ct_56_0 ct_56_1 ct_56_2 ct_56_3 ct_56_4 ct_56_5
      have b0t_56 : (0 : Int) ≤ (k0 : Int) := by omega
      have b1t_56 : (k0 : Int) < ((a.length : Nat) : Int) := by omega
      have b2t_56 : ((k0 : Int)).toNat = k0 := by omega
      clear hqt_56
      replace H := let_hid H
      obtain ⟨l58_58, hl58_58, H⟩ := H
      try simp only [Int.toNat_natCast] at hl58_58
      obtain ⟨wl58_58, hwl58_58⟩ : ∃ x, (wt_55).setCell ⟨qt_9, k0 * 6 + 5, none⟩ (.string t_55) = x := ⟨_, rfl⟩
      have z0l58_58 := Pl48_48.out.frozenAt (k0 * 6 + 5)
      have Sl58_58 := Lib.hid (own_stores [(k0 * 6 + 5, .string t_55)] Pl48_48.out)
      have nl58_58 : Hid (l58_58.length = a.length) := Lib.hid (by rw [← hl58_58, List.length_set]; exact nl48_48.out)
      have Pl58_58 : Hid (wl58_58.ownsRow b0 39 6 (.slice (some ⟨qt_9, 0, none⟩) a.length c0) a.length (Go.Proofs.YtgimcnpkngpmiaaDoor.PPostmark.flat l58_58)) := Lib.hid (by have es_ := set_self gt_56.out; have e0_ := flat_set Go.Proofs.YtgimcnpkngpmiaaDoor.PPostmark.Postmark.cells 6 (fun _ => rfl) l48_48 (k0) 5 (Go.Proofs.YtgimcnpkngpmiaaDoor.PPostmark.Postmark.mk t_56_id t_56_town t_56_kind_ t_56_first t_56_last t_56_lost) (Go.Proofs.YtgimcnpkngpmiaaDoor.PPostmark.Postmark.mk t_56_id t_56_town t_56_kind_ t_56_first t_56_last t_55) (.string t_55) lt_56 (by decide) rfl; rw [es_] at e0_; have e_ : ([(k0 * 6 + 5, .string t_55)] : List (Nat × Value)).foldl (fun xs p => xs.set p.1 p.2) (Go.Proofs.YtgimcnpkngpmiaaDoor.PPostmark.flat l48_48) = (Go.Proofs.YtgimcnpkngpmiaaDoor.PPostmark.flat l58_58) := (by rw [← hl58_58]; show _ = List.flatMap Go.Proofs.YtgimcnpkngpmiaaDoor.PPostmark.Postmark.cells _; first | (rw [← e0_]; first | done | rfl)); rw [← hwl58_58, ← e_]; exact Sl58_58.out.1)
      have Gl58_58 : Hid (wt_55.grownBy wl58_58 (Value.slice (some ⟨qt_9, 0, none⟩) a.length c0).ownBlock) := Lib.hid (by rw [← hwl58_58]; exact Sl58_58.out.2)
      have HBwl58_58 := Lib.hid (Aid.grown_tr HBwt_55.out Gl58_58.out)
      have hhl58_58 := Lib.hid hl58_58
      clear hl58_58 Sl58_58
      clear Pl48_48 Gl58_58
      replace H := let_hid H
      obtain ⟨t_60, ht_60, H⟩ := H
      replace H := app_hid H
      go_wp2_with fail
      clear z0l58_58 ct_56_0 ct_56_1 ct_56_2 ct_56_3 ct_56_4 ct_56_5
      go_roundg m0
      case measure => omega
      case rel => exact ⟨k0 + 1, _, _, by omega, by go_num, rfl, H, HBwl58_58, Pl58_58, Lib.hid (nl58_58.out)⟩
end Go.Proofs.YtgimcnpkngpmiaaDoor.GlMarkPostmarkS

/- loop.example/g01062/laws.markIntS as a plain function, and the contract of the program's: where the plain one has an answer, the program has it. Conditions: slices read as lists. -/
namespace Go.Proofs.YtgimcnpkngpmiaaDoor.GlMarkIntS
set_option linter.unusedVariables false
set_option linter.unusedSimpArgs false
open Go.RowKit
open Go.Proofs.YtgimcnpkngpmiaaDoor.Rowed Go.Proofs.YtgimcnpkngpmiaaDoor.Turn Go.Proofs.YtgimcnpkngpmiaaDoor.Aid Go.Proofs.YtgimcnpkngpmiaaDoor.GoP Go.Proofs.YtgimcnpkngpmiaaDoor.GoM

def l0  (k0 : Nat) (s : (List Int) × Int) (nx0 bk0 : (List Int) × Int → Option (Int × (List Int))) : Option (Int × (List Int)) :=
  unp2 s fun a_0l0 k_1l0 =>
  Option.bind (idx a_0l0 (k0 : Int)) fun (yt_9 : Int) =>
  letK (a_0l0.set k0 k_1l0) fun (l10_10 : (List Int)) =>
  letK (IntKind.i64.wrap (k_1l0 + 1)) fun (t_12 : Int) =>
  appK nx0 (l10_10, t_12)

def e0  (s : (List Int) × Int) : Option (Int × (List Int)) :=
  unp2 s fun a_0l0 k_1l0 =>
  some (k_1l0, a_0l0)

def P (a : (List Int)) (k_1 : Int) : Option (Int × (List Int)) :=
  cntK (l0 ) (a.length) 0 (a, k_1) (e0 )

set_option maxRecDepth 100000 in
set_option maxHeartbeats 2000000 in
theorem C (a : (List Int)) (k_1 : Int) (A0 : Option Addr) (c0 : Nat)  (b0 : Nat) (w : World) (M0 : Hid (w.ownsRow b0 3 1 (.slice A0 a.length c0) a.length (Go.Proofs.YtgimcnpkngpmiaaDoor.HelpInt.iv a))) (N0 : Hid (a.length ≤ 9223372036854775807))  {r : Int} {l_ : (List Int)} (H : Hid (P a k_1 = some (r, l_))) :
    Calls Tryd.prog 13 #[.slice A0 a.length c0, .int .i64 k_1] w (fun e w' => e = .returned (.int .i64 r) ∧ w'.ownsRow b0 3 1 (.slice A0 a.length c0) a.length (Go.Proofs.YtgimcnpkngpmiaaDoor.HelpInt.iv l_) ∧ l_.length = a.length ∧ w.grownBy w' (Value.slice A0 a.length c0).ownBlock) := by
  have HB := Lib.hid (Aid.grown_refl w (Value.slice A0 a.length c0).ownBlock)
  unfold P at H
  have N0o := N0.out
  go_enter Tryd.func13, Tryd.ntmps13
  go_wp2_with fail
  have hb_0 : a.length ≤ 9223372036854775807 := own_max M0.out
  go_wp2_with fail
  go_loopg [5, 1] (a.length) (fun m_ v5_ v1_ wr => ∃ (k0 : Nat) (a_0l0 : (List Int)) (k_1l0 : Int), k0 + m_ = a.length ∧ v5_ = .int .i64 (k0 : Int) ∧ v1_ = .int .i64 k_1l0 ∧ Hid (cntK (l0 ) m_ k0 (a_0l0, k_1l0) (e0 ) = some (r, l_)) ∧ Hid (w.grownBy wr (Value.slice A0 a.length c0).ownBlock) ∧ Hid (wr.ownsRow b0 3 1 (.slice A0 a.length c0) a.length (Go.Proofs.YtgimcnpkngpmiaaDoor.HelpInt.iv a_0l0)) ∧ Hid (a_0l0.length = a.length))
  case atStart => exact ⟨0, _, _, by omega, rfl, rfl, H, HB, M0, Lib.hid (rfl)⟩
  case round =>
    obtain ⟨k0, a_0l0, k_1l0, hkm0, rfl, rfl, H, HBwr0, Oa_0l0, hna_0l0⟩ := hrel
    rename World => wr0
    cases gk with
    | zero =>
      obtain rfl : k0 = a.length := by omega
      have hc0 : decide (((a.length : Nat) : Int) < ((a.length : Nat) : Int)) = false := by simp
      replace H := cnt_zero H
      unfold e0 at H
      replace H := unp2_hid H
      cases ret_hid H
      go_wp2_with fail
      go_ret
      exact ⟨rfl, Oa_0l0.out, hna_0l0.out, HBwr0.out⟩
    | succ m0 =>
      have hlt0 : k0 < a.length := by omega
      have hc0 : decide ((k0 : Int) < ((a.length : Nat) : Int)) = true := by simp; omega
      replace H := cnt_succ H
      unfold l0 at H
      replace H := unp2_hid H
      replace H := idx_hid H
      obtain ⟨nt_9, yt_9, et_9, lt_9, gt_9, H⟩ := H
      obtain rfl : k0 = nt_9 := by omega
      clear et_9
      have hqt_9 := hna_0l0.out
      obtain ⟨qt_9, Qt_9⟩ := own_some Oa_0l0.out (by omega)
      subst Qt_9
      obtain ⟨ab_t_9, ao_t_9, zt_9, At_9, z_t_9, ct_9_0⟩ := Go.Proofs.YtgimcnpkngpmiaaDoor.HelpInt.Ints.at_ (own_cells Oa_0l0.out) (k := k0) (by omega)
      obtain rfl := Option.some.inj (gt_9.out.symm.trans z_t_9)
      simp only [Option.some.injEq, Addr.mk.injEq] at At_9
      obtain ⟨rfl, rfl, _⟩ := At_9
      clear z_t_9
      simp only [Nat.zero_add] at ct_9_0
      have b0t_9 : (0 : Int) ≤ (k0 : Int) := by omega
      have b1t_9 : (k0 : Int) < ((a.length : Nat) : Int) := by omega
      have b2t_9 : ((k0 : Int)).toNat = k0 := by omega
      clear hqt_9
      replace H := let_hid H
      obtain ⟨l10_10, hl10_10, H⟩ := H
      try simp only [Int.toNat_natCast] at hl10_10
      obtain ⟨wl10_10, hwl10_10⟩ : ∃ x, (wr0).setCell ⟨qt_9, k0, none⟩ (.int .i64 k_1l0) = x := ⟨_, rfl⟩
      have z0l10_10 := Oa_0l0.out.frozenAt (k0)
      have Sl10_10 := Lib.hid (own_stores [(k0, .int .i64 k_1l0)] Oa_0l0.out)
      have nl10_10 : Hid (l10_10.length = a.length) := Lib.hid (by rw [← hl10_10, List.length_set]; exact hna_0l0.out)
      have Pl10_10 : Hid (wl10_10.ownsRow b0 3 1 (.slice (some ⟨qt_9, 0, none⟩) a.length c0) a.length (Go.Proofs.YtgimcnpkngpmiaaDoor.HelpInt.iv l10_10)) := Lib.hid (by have e_ : ([(k0, .int .i64 k_1l0)] : List (Nat × Value)).foldl (fun xs p => xs.set p.1 p.2) (Go.Proofs.YtgimcnpkngpmiaaDoor.HelpInt.iv a_0l0) = (Go.Proofs.YtgimcnpkngpmiaaDoor.HelpInt.iv l10_10) := (by rw [← hl10_10]; first | done | simp [Go.Proofs.YtgimcnpkngpmiaaDoor.HelpInt.iv, List.map_set]); rw [← hwl10_10, ← e_]; exact Sl10_10.out.1)
      have Gl10_10 : Hid (wr0.grownBy wl10_10 (Value.slice (some ⟨qt_9, 0, none⟩) a.length c0).ownBlock) := Lib.hid (by rw [← hwl10_10]; exact Sl10_10.out.2)
      have HBwl10_10 := Lib.hid (Aid.grown_tr HBwr0.out Gl10_10.out)
      have hhl10_10 := Lib.hid hl10_10
      clear hl10_10 Sl10_10
      clear Oa_0l0 Gl10_10
      replace H := let_hid H
      obtain ⟨t_12, ht_12, H⟩ := H
      replace H := app_hid H
      go_wp2_with fail
      clear z0l10_10 ct_9_0
      go_roundg m0
      case measure => omega
      case rel => exact ⟨k0 + 1, _, _, by omega, by go_num, rfl, H, HBwl10_10, Pl10_10, Lib.hid (nl10_10.out)⟩
end Go.Proofs.YtgimcnpkngpmiaaDoor.GlMarkIntS

/- loop.example/g01062/laws.heldIntS as a plain function, and the contract of the program's: where the plain one has an answer, the program has it. Conditions: slices read as lists. -/
namespace Go.Proofs.YtgimcnpkngpmiaaDoor.GlHeldIntS
set_option linter.unusedVariables false
set_option linter.unusedSimpArgs false
open Go.RowKit
open Go.Proofs.YtgimcnpkngpmiaaDoor.Rowed Go.Proofs.YtgimcnpkngpmiaaDoor.Turn Go.Proofs.YtgimcnpkngpmiaaDoor.Aid Go.Proofs.YtgimcnpkngpmiaaDoor.GoP Go.Proofs.YtgimcnpkngpmiaaDoor.GoM

def l0 (a : (List Int)) (k0 : Nat) (s : Int) (nx0 bk0 : Int → Option (Int)) : Option (Int) :=
  letK s fun k_1l0 =>
  Option.bind (idx a (k0 : Int)) fun (yt_8 : Int) =>
  letK (yt_8 != k_1l0) fun (t_11 : Bool) =>
  iteK t_11
  (some (-1))
  (letK (IntKind.i64.wrap (k_1l0 + 1)) fun (t_14 : Int) =>
  appK nx0 (t_14))

def e0  (s : Int) : Option (Int) :=
  letK s fun k_1l0 =>
  some k_1l0

def P (a : (List Int)) (k_1 : Int) : Option (Int) :=
  cntK (l0 a) (a.length) 0 (k_1) (e0 )

set_option maxRecDepth 100000 in
set_option maxHeartbeats 2000000 in
theorem C (a : (List Int)) (k_1 : Int) (A0 : Option Addr) (c0 : Nat)  (w : World) (M0 : Hid (Cells w 1 A0 a.length (Go.Proofs.YtgimcnpkngpmiaaDoor.HelpInt.iv a))) (N0 : Hid (a.length ≤ 9223372036854775807))  {r : Int} (H : Hid (P a k_1 = some r)) :
    Calls Tryd.prog 14 #[.slice A0 a.length c0, .int .i64 k_1] w (Gives (.int .i64 r) w) := by
  have HB := Lib.hid (Below.refl w.heap.size w)
  unfold P at H
  have N0o := N0.out
  go_enter Tryd.func14, Tryd.ntmps14
  go_wp2_with fail
  go_loopg [5, 1] (a.length) (fun m_ v5_ v1_ wr => ∃ (k0 : Nat) (k_1l0 : Int), k0 + m_ = a.length ∧ v5_ = .int .i64 (k0 : Int) ∧ v1_ = .int .i64 k_1l0 ∧ Hid (cntK (l0 a) m_ k0 (k_1l0) (e0 ) = some r) ∧ Hid (Below w.heap.size w wr))
  case atStart => exact ⟨0, _, by omega, rfl, rfl, H, HB⟩
  case round =>
    obtain ⟨k0, k_1l0, hkm0, rfl, rfl, H, HBwr0⟩ := hrel
    rename World => wr0
    cases gk with
    | zero =>
      obtain rfl : k0 = a.length := by omega
      have hc0 : decide (((a.length : Nat) : Int) < ((a.length : Nat) : Int)) = false := by simp
      replace H := cnt_zero H
      unfold e0 at H
      replace H := let_hid H
      obtain ⟨_, rfl, H⟩ := H
      obtain rfl := ret_hid H
      go_wp2_with fail
      go_ret
      exact ⟨rfl, HBwr0.out⟩
    | succ m0 =>
      have hlt0 : k0 < a.length := by omega
      have hc0 : decide ((k0 : Int) < ((a.length : Nat) : Int)) = true := by simp; omega
      replace H := cnt_succ H
      unfold l0 at H
      replace H := let_hid H
      obtain ⟨_, rfl, H⟩ := H
      replace H := idx_hid H
      obtain ⟨nt_8, yt_8, et_8, lt_8, gt_8, H⟩ := H
      obtain rfl : k0 = nt_8 := by omega
      clear et_8
      obtain ⟨ab_t_8, ao_t_8, zt_8, At_8, z_t_8, ct_8_0⟩ := Go.Proofs.YtgimcnpkngpmiaaDoor.HelpInt.Ints.at_ M0.out lt_8
      obtain rfl := Option.some.inj (gt_8.out.symm.trans z_t_8)
      subst At_8
      have ltt_8 := cell_lt ct_8_0
      replace ct_8_0 := cell_below HBwr0.out ct_8_0
      clear z_t_8
      have b0t_8 : (0 : Int) ≤ (k0 : Int) := by omega
      have b1t_8 : (k0 : Int) < ((a.length : Nat) : Int) := by omega
      have b2t_8 : ((k0 : Int)).toNat = k0 := by omega
      replace H := let_hid H
      obtain ⟨t_11, ht_11, H⟩ := H
      cases t_11 with
      | false =>
        replace H := ite_f H
        replace H := let_hid H
        obtain ⟨t_14, ht_14, H⟩ := H
        replace H := app_hid H
        go_wp2_with fail
        go_roundg m0
        case measure => omega
        case rel => exact ⟨k0 + 1, _, by omega, by go_num, rfl, H, HBwr0⟩
      | true =>
        replace H := ite_t H
        obtain rfl := ret_hid H
        go_wp2_with fail
        go_ret
        exact ⟨rfl, HBwr0.out⟩
end Go.Proofs.YtgimcnpkngpmiaaDoor.GlHeldIntS

/- loop.example/g01062/laws.FnExactReadMarks as a plain function, and the contract of the program's: where the plain one has an answer, the program has it. Conditions: slices read as lists. -/
namespace Go.Proofs.YtgimcnpkngpmiaaDoor.GlFnExactReadMarks
set_option linter.unusedVariables false
set_option linter.unusedSimpArgs false
open Go.RowKit
open Go.Proofs.YtgimcnpkngpmiaaDoor.Rowed Go.Proofs.YtgimcnpkngpmiaaDoor.Turn Go.Proofs.YtgimcnpkngpmiaaDoor.Aid Go.Proofs.YtgimcnpkngpmiaaDoor.GoP Go.Proofs.YtgimcnpkngpmiaaDoor.GoM Go.Proofs.YtgimcnpkngpmiaaDoor.TabM

def P (fuel : Nat) (aList : (List Go.Proofs.YtgimcnpkngpmiaaDoor.PPostmark.Postmark)) (aReading : ByteArray) (aDay : Int) : Option (Bool) :=
  letK (decide (1048576 < (aReading.size : Int))) fun (t_3 : Bool) =>
  iteK t_3
  (some true)
  (Option.bind (Go.Proofs.YtgimcnpkngpmiaaDoor.GlSzPostmarkS.P aList 1048576) fun (t_8 : Int) =>
  letK (decide (t_8 < 0)) fun (t_11 : Bool) =>
  iteK t_11
  (some true)
  (Option.bind (Go.Proofs.YtgimcnpkngpmiaaDoor.GlToPostmarkS.P aList) fun (t_14 : (List Go.Proofs.YtgimcnpkngpmiaaDoor.PPostmark.Postmark)) =>
  bind2 (Go.Proofs.YtgimcnpkngpmiaaDoor.GsReadMarks.P fuel t_14 aReading aDay) fun (t_17a : (List Int)) (t_17b : Bool) =>
  Option.bind (Go.Proofs.YtgimcnpkngpmiaaDoor.GlToPostmarkS.P aList) fun (t_24 : (List Go.Proofs.YtgimcnpkngpmiaaDoor.PPostmark.Postmark)) =>
  bind2 (Go.Proofs.YtgimcnpkngpmiaaDoor.GiReadMarks.P t_24 aReading aDay) fun (t_29a : (List Int)) (t_29b : Bool) =>
  Option.bind (Go.Proofs.YtgimcnpkngpmiaaDoor.GlEqIntS.P t_29a t_17a) fun (t_37 : Bool) =>
  letK (!t_37) fun (t_38 : Bool) =>
  joinK (fun (t_43 : Bool) =>
  iteK t_43
  (some false)
  (Option.bind (Go.Proofs.YtgimcnpkngpmiaaDoor.GlToPostmarkS.P aList) fun (t_47 : (List Go.Proofs.YtgimcnpkngpmiaaDoor.PPostmark.Postmark)) =>
  Option.bind (Go.Proofs.YtgimcnpkngpmiaaDoor.GlEqPostmarkS.P t_24 t_47) fun (t_48 : Bool) =>
  letK (!t_48) fun (t_49 : Bool) =>
  iteK t_49
  (some false)
  (bind2 (Go.Proofs.YtgimcnpkngpmiaaDoor.GlMarkPostmarkS.P t_24 1) fun (t_54 : Int) (lt_54 : (List Go.Proofs.YtgimcnpkngpmiaaDoor.PPostmark.Postmark)) =>
  letK (decide (t_54 < 0)) fun (t_57 : Bool) =>
  joinK (fun (t_63 : Bool) =>
  joinK (fun (t_68 : Bool) =>
  iteK t_68
  (some false)
  (bind2 (Go.Proofs.YtgimcnpkngpmiaaDoor.GlMarkIntS.P t_29a 1) fun (t_73 : Int) (lt_73 : (List Int)) =>
  Option.bind (Go.Proofs.YtgimcnpkngpmiaaDoor.GlHeldIntS.P lt_73 1) fun (t_78 : Int) =>
  letK (decide (t_78 < 0)) fun (t_81 : Bool) =>
  iteK t_81
  (some false)
  (letK (t_78 != t_73) fun (t_85 : Bool) =>
  iteK t_85
  (some false)
  (Option.bind (Go.Proofs.YtgimcnpkngpmiaaDoor.GlToPostmarkS.P aList) fun (t_88 : (List Go.Proofs.YtgimcnpkngpmiaaDoor.PPostmark.Postmark)) =>
  bind2 (Go.Proofs.YtgimcnpkngpmiaaDoor.GiReadMarks.P t_88 aReading aDay) fun (t_91a : (List Int)) (t_91b : Bool) =>
  Option.bind (Go.Proofs.YtgimcnpkngpmiaaDoor.GlEqIntS.P t_91a t_17a) fun (t_99 : Bool) =>
  letK (!t_99) fun (t_100 : Bool) =>
  joinK (fun (t_105 : Bool) =>
  iteK t_105
  (some false)
  (Option.bind (Go.Proofs.YtgimcnpkngpmiaaDoor.GlHeldIntS.P lt_73 1) fun (t_110 : Int) =>
  letK (decide (t_110 < 0)) fun (t_113 : Bool) =>
  iteK t_113
  (some false)
  (letK (t_110 != t_73) fun (t_117 : Bool) =>
  iteK t_117
  (some false)
  (some true)))) fun jt_105 => iteK t_100 (appK jt_105 true) (letK (!(t_91b == t_17b)) fun (t_104 : Bool) =>
  appK jt_105 t_104))))) fun jt_68 => iteK t_63 (appK jt_68 true) (letK (!(t_29b == t_17b)) fun (t_67 : Bool) =>
  appK jt_68 t_67)) fun jt_63 => iteK t_57 (appK jt_63 true) (Option.bind (Go.Proofs.YtgimcnpkngpmiaaDoor.GlEqIntS.P t_29a t_17a) fun (t_61 : Bool) =>
  letK (!t_61) fun (t_62 : Bool) =>
  appK jt_63 t_62)))) fun jt_43 => iteK t_38 (appK jt_43 true) (letK (!(t_29b == t_17b)) fun (t_42 : Bool) =>
  appK jt_43 t_42)))

set_option maxRecDepth 100000 in
set_option maxHeartbeats 2000000 in
theorem C (fuel : Nat) (aList : (List Go.Proofs.YtgimcnpkngpmiaaDoor.PPostmark.Postmark)) (aReading : ByteArray) (aDay : Int) (A0 : Option Addr) (c0 : Nat)  (w : World) (HT : Hid (Tab w)) (M0 : Hid (Cells w 6 A0 aList.length (Go.Proofs.YtgimcnpkngpmiaaDoor.PPostmark.flat aList))) (N0 : Hid (aList.length ≤ 9223372036854775807))  {r : Bool} (H : Hid (P fuel aList aReading aDay = some r)) :
    Calls Tryd.prog 3 #[.slice A0 aList.length c0, .string aReading, .int .i64 aDay] w (Gives (.bool r) w) := by
  have HB := Lib.hid (Below.refl w.heap.size w)
  unfold P at H
  have N0o := N0.out
  go_enter Tryd.func3, Tryd.ntmps3
  replace H := let_hid H
  obtain ⟨t_3, ht_3, H⟩ := H
  cases t_3 with
  | false =>
    have nht_3 : ¬ (1048576 < aReading.size) := by have := of_decide_eq_false ht_3; omega
    replace H := ite_f H
    replace H := bind_hid H
    obtain ⟨t_8, qt_8, H⟩ := H
    go_wp2_with fail
    go_at_call 6
    refine (Go.Proofs.YtgimcnpkngpmiaaDoor.GlSzPostmarkS.C (aList) (1048576) A0 c0 _   (Lib.hid (Cells.below M0.out HB.out)) N0 qt_8).mono ?_
    rintro e_t_8 wt_8 ⟨rfl, bt_8⟩
    have HBwt_8 := Lib.hid (Below.step HB.out bt_8)
    clear bt_8
    replace H := let_hid H
    obtain ⟨t_11, ht_11, H⟩ := H
    cases t_11 with
    | false =>
      replace H := ite_f H
      replace H := bind_hid H
      obtain ⟨t_14, qt_14, H⟩ := H
      go_wp2_with fail
      go_at_call 8
      refine (Go.Proofs.YtgimcnpkngpmiaaDoor.GlToPostmarkS.C (aList) A0 c0 _   (Lib.hid (Cells.below M0.out HBwt_8.out)) N0 qt_14).mono ?_
      rintro e_t_14 wt_14 ⟨At_14, ct_14, rfl, ot_14, bt_14⟩
      have Ot_14 := Lib.hid (own_lower ot_14 HBwt_8.out.size)
      clear ot_14
      have HBwt_14 := Lib.hid (Below.step HBwt_8.out bt_14)
      clear bt_14
      replace H := bind2_hid H
      obtain ⟨t_17a, t_17b, qt_17, H⟩ := H
      go_wp2_with fail
      go_at_call 7
      refine (Go.Proofs.YtgimcnpkngpmiaaDoor.GsReadMarks.C fuel (t_14) (aReading) (aDay) At_14 ct_14 _   (Lib.hid (own_cells Ot_14.out)) (Lib.hid (own_max Ot_14.out)) qt_17).mono ?_
      rintro e_t_17 wt_17 ⟨At_17a, ct_17a, rfl, ot_17a, bt_17⟩
      have Dt_17a_t_14 := Lib.hid (apart_call ot_17a Ot_14.out)
      have Ot_17a := Lib.hid (own_lower ot_17a HBwt_14.out.size)
      clear ot_17a
      have HBwt_17 := Lib.hid (Below.step HBwt_14.out bt_17)
      replace Ot_14 := Lib.hid (own_below Ot_14.out bt_17)
      clear bt_17
      replace H := bind_hid H
      obtain ⟨t_24, qt_24, H⟩ := H
      go_wp2_with fail
      go_at_call 8
      refine (Go.Proofs.YtgimcnpkngpmiaaDoor.GlToPostmarkS.C (aList) A0 c0 _   (Lib.hid (Cells.below M0.out HBwt_17.out)) N0 qt_24).mono ?_
      rintro e_t_24 wt_24 ⟨At_24, ct_24, rfl, ot_24, bt_24⟩
      have Dt_24_t_14 := Lib.hid (apart_call ot_24 Ot_14.out)
      have Dt_24_t_17a := Lib.hid (apart_call ot_24 Ot_17a.out)
      have Ot_24 := Lib.hid (own_lower ot_24 HBwt_17.out.size)
      clear ot_24
      have HBwt_24 := Lib.hid (Below.step HBwt_17.out bt_24)
      replace Ot_14 := Lib.hid (own_below Ot_14.out bt_24)
      replace Ot_17a := Lib.hid (own_below Ot_17a.out bt_24)
      clear bt_24
      replace H := bind2_hid H
      obtain ⟨t_29a, t_29b, qt_29, H⟩ := H
      go_wp2_with fail
      go_at_call 9
      refine (Go.Proofs.YtgimcnpkngpmiaaDoor.GiReadMarks.C (t_24) (aReading) (aDay) At_24 ct_24 _ (tab_below HBwt_24.out HT)  (Lib.hid (own_cells Ot_24.out)) (Lib.hid (own_max Ot_24.out)) qt_29).mono ?_
      rintro e_t_29 wt_29 ⟨At_29a, ct_29a, rfl, ot_29a, bt_29⟩
      have Dt_29a_t_14 := Lib.hid (apart_call ot_29a Ot_14.out)
      have Dt_29a_t_17a := Lib.hid (apart_call ot_29a Ot_17a.out)
      have Dt_29a_t_24 := Lib.hid (apart_call ot_29a Ot_24.out)
      have Ot_29a := Lib.hid (own_lower ot_29a HBwt_24.out.size)
      clear ot_29a
      have HBwt_29 := Lib.hid (Below.step HBwt_24.out bt_29)
      replace Ot_14 := Lib.hid (own_below Ot_14.out bt_29)
      replace Ot_17a := Lib.hid (own_below Ot_17a.out bt_29)
      replace Ot_24 := Lib.hid (own_below Ot_24.out bt_29)
      clear bt_29
      replace H := bind_hid H
      obtain ⟨t_37, qt_37, H⟩ := H
      go_wp2_with fail
      go_at_call 10
      refine (Go.Proofs.YtgimcnpkngpmiaaDoor.GlEqIntS.C (t_29a) (t_17a) At_29a ct_29a At_17a ct_17a _   (Lib.hid (own_cells Ot_29a.out)) (Lib.hid (own_max Ot_29a.out)) (Lib.hid (own_cells Ot_17a.out)) (Lib.hid (own_max Ot_17a.out)) qt_37).mono ?_
      rintro e_t_37 wt_37 ⟨rfl, bt_37⟩
      have HBwt_37 := Lib.hid (Below.step HBwt_29.out bt_37)
      replace Ot_14 := Lib.hid (own_below Ot_14.out bt_37)
      replace Ot_17a := Lib.hid (own_below Ot_17a.out bt_37)
      replace Ot_24 := Lib.hid (own_below Ot_24.out bt_37)
      replace Ot_29a := Lib.hid (own_below Ot_29a.out bt_37)
      clear bt_37
      cases t_37 with
      | false =>
        replace H := let_hid H
        obtain ⟨t_38, ht_38, H⟩ := H
        obtain rfl : t_38 = true := ht_38.symm
        replace H := join_hid H
        replace H := ite_t H
        replace H := app_hid H
        replace H := ite_t H
        obtain rfl := ret_hid H
        go_wp2_with fail
        go_ret
        exact ⟨rfl, HBwt_37.out⟩
      | true =>
        replace H := let_hid H
        obtain ⟨t_38, ht_38, H⟩ := H
        obtain rfl : t_38 = false := ht_38.symm
        replace H := join_hid H
        replace H := ite_f H
        replace H := let_hid H
        obtain ⟨t_42, ht_42, H⟩ := H
        replace H := app_hid H
        cases t_42 with
        | false =>
          replace H := ite_f H
          replace H := bind_hid H
          obtain ⟨t_47, qt_47, H⟩ := H
          go_wp2_with fail
          go_at_call 8
          refine (Go.Proofs.YtgimcnpkngpmiaaDoor.GlToPostmarkS.C (aList) A0 c0 _   (Lib.hid (Cells.below M0.out HBwt_37.out)) N0 qt_47).mono ?_
          rintro e_t_47 wt_47 ⟨At_47, ct_47, rfl, ot_47, bt_47⟩
          have Dt_47_t_14 := Lib.hid (apart_call ot_47 Ot_14.out)
          have Dt_47_t_17a := Lib.hid (apart_call ot_47 Ot_17a.out)
          have Dt_47_t_24 := Lib.hid (apart_call ot_47 Ot_24.out)
          have Dt_47_t_29a := Lib.hid (apart_call ot_47 Ot_29a.out)
          have Ot_47 := Lib.hid (own_lower ot_47 HBwt_37.out.size)
          clear ot_47
          have HBwt_47 := Lib.hid (Below.step HBwt_37.out bt_47)
          replace Ot_14 := Lib.hid (own_below Ot_14.out bt_47)
          replace Ot_17a := Lib.hid (own_below Ot_17a.out bt_47)
          replace Ot_24 := Lib.hid (own_below Ot_24.out bt_47)
          replace Ot_29a := Lib.hid (own_below Ot_29a.out bt_47)
          clear bt_47
          replace H := bind_hid H
          obtain ⟨t_48, qt_48, H⟩ := H
          go_wp2_with fail
          go_at_call 11
          refine (Go.Proofs.YtgimcnpkngpmiaaDoor.GlEqPostmarkS.C (t_24) (t_47) At_24 ct_24 At_47 ct_47 _   (Lib.hid (own_cells Ot_24.out)) (Lib.hid (own_max Ot_24.out)) (Lib.hid (own_cells Ot_47.out)) (Lib.hid (own_max Ot_47.out)) qt_48).mono ?_
          rintro e_t_48 wt_48 ⟨rfl, bt_48⟩
          have HBwt_48 := Lib.hid (Below.step HBwt_47.out bt_48)
          replace Ot_14 := Lib.hid (own_below Ot_14.out bt_48)
          replace Ot_17a := Lib.hid (own_below Ot_17a.out bt_48)
          replace Ot_24 := Lib.hid (own_below Ot_24.out bt_48)
          replace Ot_29a := Lib.hid (own_below Ot_29a.out bt_48)
          replace Ot_47 := Lib.hid (own_below Ot_47.out bt_48)
          clear bt_48
          cases t_48 with
          | false =>
            replace H := let_hid H
            obtain ⟨t_49, ht_49, H⟩ := H
            obtain rfl : t_49 = true := ht_49.symm
            replace H := ite_t H
            obtain rfl := ret_hid H
            go_wp2_with fail
            go_ret
            exact ⟨rfl, HBwt_48.out⟩
          | true =>
            replace H := let_hid H
            obtain ⟨t_49, ht_49, H⟩ := H
            obtain rfl : t_49 = false := ht_49.symm
            replace H := ite_f H
            replace H := bind2_hid H
            obtain ⟨t_54, lt_54, qt_54, H⟩ := H
            go_wp2_with fail
            go_at_call 12
            refine (Go.Proofs.YtgimcnpkngpmiaaDoor.GlMarkPostmarkS.C (t_24) (1) At_24 ct_24 w.heap.size _   Ot_24 (Lib.hid (own_max Ot_24.out))   qt_54).mono ?_
            rintro e_t_54 wt_54 ⟨rfl, ot_54, nt_54, gt_54⟩
            have Pt_54 := Lib.hid ot_54
            have Gt_54 := Lib.hid gt_54
            replace nt_54 := Lib.hid nt_54
            clear ot_54 gt_54
            have HBwt_54 := Lib.hid (HBwt_48.out.grown Gt_54.out HBwt_48.out.size (fun q hq => (Ot_24.out.lt q hq).1))
            replace Ot_14 := Lib.hid (own_other Ot_14.out Gt_54.out Dt_24_t_14.out)
            replace Ot_17a := Lib.hid (own_other Ot_17a.out Gt_54.out Dt_24_t_17a.out)
            replace Ot_29a := Lib.hid (own_other Ot_29a.out Gt_54.out (Apart.symm Dt_29a_t_24.out))
            replace Ot_47 := Lib.hid (own_other Ot_47.out Gt_54.out (Apart.symm Dt_47_t_24.out))
            clear Ot_24 Gt_54
            replace H := let_hid H
            obtain ⟨t_57, ht_57, H⟩ := H
            replace H := join_hid H
            cases t_57 with
            | false =>
              replace H := ite_f H
              replace H := bind_hid H
              obtain ⟨t_61, qt_61, H⟩ := H
              go_wp2_with fail
              go_at_call 10
              refine (Go.Proofs.YtgimcnpkngpmiaaDoor.GlEqIntS.C (t_29a) (t_17a) At_29a ct_29a At_17a ct_17a _   (Lib.hid (own_cells Ot_29a.out)) (Lib.hid (own_max Ot_29a.out)) (Lib.hid (own_cells Ot_17a.out)) (Lib.hid (own_max Ot_17a.out)) qt_61).mono ?_
              rintro e_t_61 wt_61 ⟨rfl, bt_61⟩
              have HBwt_61 := Lib.hid (Below.step HBwt_54.out bt_61)
              replace Ot_14 := Lib.hid (own_below Ot_14.out bt_61)
              replace Ot_17a := Lib.hid (own_below Ot_17a.out bt_61)
              replace Pt_54 := Lib.hid (own_below Pt_54.out bt_61)
              replace Ot_29a := Lib.hid (own_below Ot_29a.out bt_61)
              replace Ot_47 := Lib.hid (own_below Ot_47.out bt_61)
              clear bt_61
              cases t_61 with
              | false =>
                replace H := let_hid H
                obtain ⟨t_62, ht_62, H⟩ := H
                obtain rfl : t_62 = true := ht_62.symm
                replace H := app_hid H
                replace H := join_hid H
                replace H := ite_t H
                replace H := app_hid H
                replace H := ite_t H
                obtain rfl := ret_hid H
                go_wp2_with fail
                go_ret
                exact ⟨rfl, HBwt_61.out⟩
              | true =>
                replace H := let_hid H
                obtain ⟨t_62, ht_62, H⟩ := H
                obtain rfl : t_62 = false := ht_62.symm
                replace H := app_hid H
                replace H := join_hid H
                replace H := ite_f H
                replace H := let_hid H
                obtain ⟨t_67, ht_67, H⟩ := H
                obtain rfl := ht_42.symm.trans ht_67
                replace H := app_hid H
                replace H := ite_f H
                replace H := bind2_hid H
                obtain ⟨t_73, lt_73, qt_73, H⟩ := H
                go_wp2_with fail
                go_at_call 13
                refine (Go.Proofs.YtgimcnpkngpmiaaDoor.GlMarkIntS.C (t_29a) (1) At_29a ct_29a w.heap.size _   Ot_29a (Lib.hid (own_max Ot_29a.out))   qt_73).mono ?_
                rintro e_t_73 wt_73 ⟨rfl, ot_73, nt_73, gt_73⟩
                have Pt_73 := Lib.hid ot_73
                have Gt_73 := Lib.hid gt_73
                replace nt_73 := Lib.hid nt_73
                clear ot_73 gt_73
                have HBwt_73 := Lib.hid (HBwt_61.out.grown Gt_73.out HBwt_61.out.size (fun q hq => (Ot_29a.out.lt q hq).1))
                replace Ot_14 := Lib.hid (own_other Ot_14.out Gt_73.out Dt_29a_t_14.out)
                replace Ot_17a := Lib.hid (own_other Ot_17a.out Gt_73.out Dt_29a_t_17a.out)
                replace Pt_54 := Lib.hid (own_other Pt_54.out Gt_73.out Dt_29a_t_24.out)
                replace Ot_47 := Lib.hid (own_other Ot_47.out Gt_73.out (Apart.symm Dt_47_t_29a.out))
                clear Ot_29a Gt_73
                replace H := bind_hid H
                obtain ⟨t_78, qt_78, H⟩ := H
                go_wp2_with fail
                have hc_ := nt_73.out
                have hv_ : (Value.slice At_29a t_29a.length ct_29a : Value) = Value.slice At_29a lt_73.length ct_29a := by rw [hc_]
                try rw [hv_]
                replace Pt_73 := Lib.hid (own_len hc_ Pt_73.out)
                clear hc_ hv_
                go_wp2_with fail
                go_at_call 14
                refine (Go.Proofs.YtgimcnpkngpmiaaDoor.GlHeldIntS.C (lt_73) (1) At_29a ct_29a _   (Lib.hid (own_cells Pt_73.out)) (Lib.hid (own_max Pt_73.out)) qt_78).mono ?_
                rintro e_t_78 wt_78 ⟨rfl, bt_78⟩
                have HBwt_78 := Lib.hid (Below.step HBwt_73.out bt_78)
                replace Ot_14 := Lib.hid (own_below Ot_14.out bt_78)
                replace Ot_17a := Lib.hid (own_below Ot_17a.out bt_78)
                replace Pt_54 := Lib.hid (own_below Pt_54.out bt_78)
                replace Pt_73 := Lib.hid (own_below Pt_73.out bt_78)
                replace Ot_47 := Lib.hid (own_below Ot_47.out bt_78)
                clear bt_78
                replace H := let_hid H
                obtain ⟨t_81, ht_81, H⟩ := H
                cases t_81 with
                | false =>
                  replace H := ite_f H
                  replace H := let_hid H
                  obtain ⟨t_85, ht_85, H⟩ := H
                  cases t_85 with
                  | false =>
                    replace H := ite_f H
                    replace H := bind_hid H
                    obtain ⟨t_88, qt_88, H⟩ := H
                    go_wp2_with fail
                    go_at_call 8
                    refine (Go.Proofs.YtgimcnpkngpmiaaDoor.GlToPostmarkS.C (aList) A0 c0 _   (Lib.hid (Cells.below M0.out HBwt_78.out)) N0 qt_88).mono ?_
                    rintro e_t_88 wt_88 ⟨At_88, ct_88, rfl, ot_88, bt_88⟩
                    have Dt_88_t_14 := Lib.hid (apart_call ot_88 Ot_14.out)
                    have Dt_88_t_17a := Lib.hid (apart_call ot_88 Ot_17a.out)
                    have Dt_88_t_24 := Lib.hid (apart_call ot_88 Pt_54.out)
                    have Dt_88_t_29a := Lib.hid (apart_call ot_88 Pt_73.out)
                    have Dt_88_t_47 := Lib.hid (apart_call ot_88 Ot_47.out)
                    have Ot_88 := Lib.hid (own_lower ot_88 HBwt_78.out.size)
                    clear ot_88
                    have HBwt_88 := Lib.hid (Below.step HBwt_78.out bt_88)
                    replace Ot_14 := Lib.hid (own_below Ot_14.out bt_88)
                    replace Ot_17a := Lib.hid (own_below Ot_17a.out bt_88)
                    replace Pt_54 := Lib.hid (own_below Pt_54.out bt_88)
                    replace Pt_73 := Lib.hid (own_below Pt_73.out bt_88)
                    replace Ot_47 := Lib.hid (own_below Ot_47.out bt_88)
                    clear bt_88
                    replace H := bind2_hid H
                    obtain ⟨t_91a, t_91b, qt_91, H⟩ := H
                    go_wp2_with fail
                    go_at_call 9
                    refine (Go.Proofs.YtgimcnpkngpmiaaDoor.GiReadMarks.C (t_88) (aReading) (aDay) At_88 ct_88 _ (tab_below HBwt_88.out HT)  (Lib.hid (own_cells Ot_88.out)) (Lib.hid (own_max Ot_88.out)) qt_91).mono ?_
                    rintro e_t_91 wt_91 ⟨At_91a, ct_91a, rfl, ot_91a, bt_91⟩
                    have Dt_91a_t_14 := Lib.hid (apart_call ot_91a Ot_14.out)
                    have Dt_91a_t_17a := Lib.hid (apart_call ot_91a Ot_17a.out)
                    have Dt_91a_t_24 := Lib.hid (apart_call ot_91a Pt_54.out)
                    have Dt_91a_t_29a := Lib.hid (apart_call ot_91a Pt_73.out)
                    have Dt_91a_t_47 := Lib.hid (apart_call ot_91a Ot_47.out)
                    have Dt_91a_t_88 := Lib.hid (apart_call ot_91a Ot_88.out)
                    have Ot_91a := Lib.hid (own_lower ot_91a HBwt_88.out.size)
                    clear ot_91a
                    have HBwt_91 := Lib.hid (Below.step HBwt_88.out bt_91)
                    replace Ot_14 := Lib.hid (own_below Ot_14.out bt_91)
                    replace Ot_17a := Lib.hid (own_below Ot_17a.out bt_91)
                    replace Pt_54 := Lib.hid (own_below Pt_54.out bt_91)
                    replace Pt_73 := Lib.hid (own_below Pt_73.out bt_91)
                    replace Ot_47 := Lib.hid (own_below Ot_47.out bt_91)
                    replace Ot_88 := Lib.hid (own_below Ot_88.out bt_91)
                    clear bt_91
                    replace H := bind_hid H
                    obtain ⟨t_99, qt_99, H⟩ := H
                    go_wp2_with fail
                    go_at_call 10
                    refine (Go.Proofs.YtgimcnpkngpmiaaDoor.GlEqIntS.C (t_91a) (t_17a) At_91a ct_91a At_17a ct_17a _   (Lib.hid (own_cells Ot_91a.out)) (Lib.hid (own_max Ot_91a.out)) (Lib.hid (own_cells Ot_17a.out)) (Lib.hid (own_max Ot_17a.out)) qt_99).mono ?_
                    rintro e_t_99 wt_99 ⟨rfl, bt_99⟩
                    have HBwt_99 := Lib.hid (Below.step HBwt_91.out bt_99)
                    replace Ot_14 := Lib.hid (own_below Ot_14.out bt_99)
                    replace Ot_17a := Lib.hid (own_below Ot_17a.out bt_99)
                    replace Pt_54 := Lib.hid (own_below Pt_54.out bt_99)
                    replace Pt_73 := Lib.hid (own_below Pt_73.out bt_99)
                    replace Ot_47 := Lib.hid (own_below Ot_47.out bt_99)
                    replace Ot_88 := Lib.hid (own_below Ot_88.out bt_99)
                    replace Ot_91a := Lib.hid (own_below Ot_91a.out bt_99)
                    clear bt_99
                    cases t_99 with
                    | false =>
                      replace H := let_hid H
                      obtain ⟨t_100, ht_100, H⟩ := H
                      obtain rfl : t_100 = true := ht_100.symm
                      replace H := join_hid H
                      replace H := ite_t H
                      replace H := app_hid H
                      replace H := ite_t H
                      obtain rfl := ret_hid H
                      go_wp2_with fail
                      go_ret
                      exact ⟨rfl, HBwt_99.out⟩
                    | true =>
                      replace H := let_hid H
                      obtain ⟨t_100, ht_100, H⟩ := H
                      obtain rfl : t_100 = false := ht_100.symm
                      replace H := join_hid H
                      replace H := ite_f H
                      replace H := let_hid H
                      obtain ⟨t_104, ht_104, H⟩ := H
                      replace H := app_hid H
                      cases t_104 with
                      | false =>
                        replace H := ite_f H
                        replace H := bind_hid H
                        obtain ⟨t_110, qt_110, H⟩ := H
                        go_wp2_with fail
                        go_at_call 14
                        refine (Go.Proofs.YtgimcnpkngpmiaaDoor.GlHeldIntS.C (lt_73) (1) At_29a ct_29a _   (Lib.hid (own_cells Pt_73.out)) (Lib.hid (own_max Pt_73.out)) qt_110).mono ?_
                        rintro e_t_110 wt_110 ⟨rfl, bt_110⟩
                        have HBwt_110 := Lib.hid (Below.step HBwt_99.out bt_110)
                        replace Ot_14 := Lib.hid (own_below Ot_14.out bt_110)
                        replace Ot_17a := Lib.hid (own_below Ot_17a.out bt_110)
                        replace Pt_54 := Lib.hid (own_below Pt_54.out bt_110)
                        replace Pt_73 := Lib.hid (own_below Pt_73.out bt_110)
                        replace Ot_47 := Lib.hid (own_below Ot_47.out bt_110)
                        replace Ot_88 := Lib.hid (own_below Ot_88.out bt_110)
                        replace Ot_91a := Lib.hid (own_below Ot_91a.out bt_110)
                        clear bt_110
                        replace H := let_hid H
                        obtain ⟨t_113, ht_113, H⟩ := H
                        cases t_113 with
                        | false =>
                          replace H := ite_f H
                          replace H := let_hid H
                          obtain ⟨t_117, ht_117, H⟩ := H
                          cases t_117 with
                          | false =>
                            replace H := ite_f H
                            obtain rfl := ret_hid H
                            go_wp2_with fail
                            go_ret
                            exact ⟨rfl, HBwt_110.out⟩
                          | true =>
                            replace H := ite_t H
                            obtain rfl := ret_hid H
                            go_wp2_with fail
                            go_ret
                            exact ⟨rfl, HBwt_110.out⟩
                        | true =>
                          replace H := ite_t H
                          obtain rfl := ret_hid H
                          go_wp2_with fail
                          go_ret
                          exact ⟨rfl, HBwt_110.out⟩
                      | true =>
                        replace H := ite_t H
                        obtain rfl := ret_hid H
                        go_wp2_with fail
                        go_ret
                        exact ⟨rfl, HBwt_99.out⟩
                  | true =>
                    replace H := ite_t H
                    obtain rfl := ret_hid H
                    go_wp2_with fail
                    go_ret
                    exact ⟨rfl, HBwt_78.out⟩
                | true =>
                  replace H := ite_t H
                  obtain rfl := ret_hid H
                  go_wp2_with fail
                  go_ret
                  exact ⟨rfl, HBwt_78.out⟩
            | true =>
              replace H := ite_t H
              replace H := app_hid H
              replace H := join_hid H
              replace H := ite_t H
              replace H := app_hid H
              replace H := ite_t H
              obtain rfl := ret_hid H
              go_wp2_with fail
              go_ret
              exact ⟨rfl, HBwt_54.out⟩
        | true =>
          replace H := ite_t H
          obtain rfl := ret_hid H
          go_wp2_with fail
          go_ret
          exact ⟨rfl, HBwt_37.out⟩
    | true =>
      replace H := ite_t H
      obtain rfl := ret_hid H
      go_wp2_with fail
      go_ret
      exact ⟨rfl, HBwt_8.out⟩
  | true =>
    have nht_3 : 1048576 < aReading.size := by have := of_decide_eq_true ht_3; omega
    replace H := ite_t H
    obtain rfl := ret_hid H
    go_wp2_with fail
    go_ret
    exact ⟨rfl, HB.out⟩
end Go.Proofs.YtgimcnpkngpmiaaDoor.GlFnExactReadMarks

/- A loop that gathers what a test lets through: the plain loop's answer. (QGath) No condition but those of each theorem. -/
namespace Go.Proofs.YtgimcnpkngpmiaaDoor.QGath
set_option linter.unusedVariables false
open Go.RowKit
open Go.Proofs.YtgimcnpkngpmiaaDoor.GoP Go.Proofs.YtgimcnpkngpmiaaDoor.QBase Go.Proofs.YtgimcnpkngpmiaaDoor.QLoop

theorem gather {α β R : Type} {l : List α} {p : α → Bool} {g : α → β} {f : Nat → List β → (List β → Option R) → (List β → Option R) → Option R} {fin : List β → Option R} (hl : l.length ≤ 1099511627776)
    (step : ∀ k nx x s, l[k]? = some x → s.length ≤ 1099511627776 → f k s nx fin = nx (if p x then s ++ [g x] else s)) : cntK f l.length 0 [] fin = fin ((l.filter p).map g) := by
  have key : ∀ m k, k + m = l.length → cntK f m k (((l.take k).filter p).map g) fin = fin ((l.filter p).map g) := by
    intro m
    induction m with
    | zero => intro k hk; obtain rfl : k = l.length := by omega
              rw [List.take_of_length_le (Nat.le_refl _)]; rfl
    | succ m ih =>
      intro k hk
      obtain ⟨x, hx, _⟩ := at_lt (l := l) (k := k) (by omega)
      show f k _ _ fin = _
      have hle : (((l.take k).filter p).map g).length ≤ 1099511627776 := by
        rw [List.length_map]
        have := List.length_filter_le p (l.take k)
        rw [List.length_take] at this
        omega
      rw [step k _ x _ hx hle, ← ih (k + 1) (by omega), take_next hx, List.filter_append, List.map_append]
      cases hp : p x <;> simp [List.filter, hp]
  exact key l.length 0 (by omega)
end Go.Proofs.YtgimcnpkngpmiaaDoor.QGath

