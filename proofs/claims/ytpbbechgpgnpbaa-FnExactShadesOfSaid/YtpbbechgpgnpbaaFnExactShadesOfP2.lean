/- The texts on which the proof of FnExactShadesOf stands, one behind the other (2 of 2). No condition of their own. -/
import Derived.Test.YtpbbechgpgnpbaaChecked
import Derived.Test.YtpbbechgpgnpbaaFnExactShadesOfP1
import Derived.WalkKit
import Derived.WalkSpells
import Derived.WalkLawsBesides
import Derived.BigQuiet
import Derived.OwnWalk
import Derived.Deep.LoopGhost
import Derived.Deep.QuietTactic
import Derived.IntWalk
import Derived.Lib.QuietBelow
import Derived.Lib.Hide
import Derived.Outline
import Derived.Lib.ItoaLen
import Derived.Lib.ItoaMem
import Derived.Laws.IdiomStrings
import Derived.Deep.RegionHeld3
/- loop.example/g01062/impl.keysWhere[loop.example/g01062/impl.Shade,string] as a plain function, and the contract of the program's: where the plain one has an answer, the program has it. Conditions: slices read as lists. -/
namespace Go.Proofs.Ytpbbechgpgnpbaa.GiKeysWhereShadeStringiNameOfShadeiShadesOf1
set_option linter.unusedVariables false
set_option linter.unusedSimpArgs false
open Go.RowKit
open Go.Proofs.Ytpbbechgpgnpbaa.Rowed Go.Proofs.Ytpbbechgpgnpbaa.Turn Go.Proofs.Ytpbbechgpgnpbaa.Aid Go.Proofs.Ytpbbechgpgnpbaa.GoP Go.Proofs.Ytpbbechgpgnpbaa.GoM

def l0 (list : (List Go.Proofs.Ytpbbechgpgnpbaa.PShade.Shade)) (hf2_0 : Int) (hf2_1 : Int) (k0 : Nat) (s : (List ByteArray)) (nx0 bk0 : (List ByteArray) → Option ((List ByteArray))) : Option ((List ByteArray)) :=
  letK s fun keys_7l0 =>
  Option.bind (idx list (k0 : Int)) fun (yt_7 : Go.Proofs.Ytpbbechgpgnpbaa.PShade.Shade) =>
  unShade yt_7 fun (t_7_name : ByteArray) (t_7_hue : Int) (t_7_width : Int) (t_7_dark : Int) (t_7_light : Int) =>
  Option.bind (Go.Proofs.Ytpbbechgpgnpbaa.GiShadesOf1.P (Go.Proofs.Ytpbbechgpgnpbaa.PShade.Shade.mk t_7_name t_7_hue t_7_width t_7_dark t_7_light) hf2_0 hf2_1) fun (t_13 : Bool) =>
  iteK t_13
  (Option.bind (Go.Proofs.Ytpbbechgpgnpbaa.GiNameOfShade.P (Go.Proofs.Ytpbbechgpgnpbaa.PShade.Shade.mk t_7_name t_7_hue t_7_width t_7_dark t_7_light)) fun (t_17 : ByteArray) =>
  guardK (keys_7l0.length ≤ 1099511627776) <|
  letK (keys_7l0 ++ [t_17]) fun (t_19 : (List ByteArray)) =>
  appK nx0 (t_19))
  (appK nx0 (keys_7l0))

def e0  (s : (List ByteArray)) : Option ((List ByteArray)) :=
  letK s fun keys_7l0 =>
  some keys_7l0

def P (list : (List Go.Proofs.Ytpbbechgpgnpbaa.PShade.Shade)) (hf2_0 : Int) (hf2_1 : Int) : Option ((List ByteArray)) :=
  cntK (l0 list hf2_0 hf2_1) (list.length) 0 (([] : List ByteArray)) (e0 )

set_option maxRecDepth 100000 in
set_option maxHeartbeats 2000000 in
theorem C (list : (List Go.Proofs.Ytpbbechgpgnpbaa.PShade.Shade)) (hf2_0 : Int) (hf2_1 : Int) (A0 : Option Addr) (c0 : Nat) (gf2_0 : Nat) (gf2_1 : Nat) (w : World) (M0 : Hid (Cells w 5 A0 list.length (Go.Proofs.Ytpbbechgpgnpbaa.PShade.flat list))) (N0 : Hid (list.length ≤ 9223372036854775807)) (Ff2_0h : Hid (w.cell? ⟨gf2_0, 0, none⟩ = some (.int .i64 hf2_0))) (Ff2_1h : Hid (w.cell? ⟨gf2_1, 0, none⟩ = some (.int .i64 hf2_1))) {r : (List ByteArray)} (H : Hid (P list hf2_0 hf2_1 = some r)) :
    Calls Try.prog 70 #[.slice A0 list.length c0, .func (.func 62) #[] #[], .func (.func 71) #[] #[.pointer (some ⟨gf2_0, 0, none⟩), .pointer (some ⟨gf2_1, 0, none⟩)]] w (fun e w' => ∃ A_r c_r, e = .returned (.slice A_r r.length c_r) ∧ w'.ownsRow w.heap.size 9 1 (.slice A_r r.length c_r) r.length (r.map Value.string) ∧ Below w.heap.size w w') := by
  have HB := Lib.hid (Below.refl w.heap.size w)
  unfold P at H
  have N0o := N0.out
  have Ff2_0 := Ff2_0h.out
  have Ff2_1 := Ff2_1h.out
  obtain ⟨i0_9, hi_9, hz0_9, hz1_9, hz2_9⟩ := Aid.info_parts (P := Try.prog) (T := 9) (z := .string ByteArray.empty) (s := 1) (b := 16) (by kernel_rfl)
  go_enter Try.func70, Try.ntmps70
  obtain ⟨w_t_1, hw_t_1⟩ : ∃ x, w.alloc (.cells #[] 9) = x := ⟨_, rfl⟩
  have bw_t_1 : Below w.heap.size w w_t_1 := by rw [← hw_t_1]; exact (Below.refl _ _).alloc (Nat.le_refl _) _
  have Ot_1 : Hid (w_t_1.ownsRow w.heap.size 9 1 (.slice (some ⟨w.heap.size, 0, none⟩) 0 0) 0 []) := Lib.hid (by rw [← hw_t_1]; exact own_empty HB.out.size)
  have HBw_t_1 := Lib.hid (Below.step HB.out bw_t_1)
  have Ff2_0__128 := cell_below bw_t_1 Ff2_0
  have Ff2_1__129 := cell_below bw_t_1 Ff2_1
  clear bw_t_1
  go_wp2_with fail
  clear Ff2_0 Ff2_1
  go_loopg [13, 7] (list.length) (fun m_ v13_ v7_ wr => ∃ (k0 : Nat) (keys_7l0 : (List ByteArray)) (Akeys_7l0 : Option Addr) (ckeys_7l0 : Nat), k0 + m_ = list.length ∧ v13_ = .int .i64 (k0 : Int) ∧ v7_ = .slice Akeys_7l0 keys_7l0.length ckeys_7l0 ∧ Hid (cntK (l0 list hf2_0 hf2_1) m_ k0 (keys_7l0) (e0 ) = some r) ∧ Hid (Below w.heap.size w wr) ∧ wr.cell? ⟨gf2_0, 0, none⟩ = some (.int .i64 hf2_0) ∧ wr.cell? ⟨gf2_1, 0, none⟩ = some (.int .i64 hf2_1) ∧ Hid (wr.ownsRow w.heap.size 9 1 (.slice Akeys_7l0 keys_7l0.length ckeys_7l0) keys_7l0.length (keys_7l0.map Value.string)))
  case atStart => exact ⟨0, _, _, _, by omega, rfl, rfl, H, HBw_t_1, Ff2_0__128, Ff2_1__129, Ot_1⟩
  case round =>
    obtain ⟨k0, keys_7l0, Akeys_7l0, ckeys_7l0, hkm0, rfl, rfl, H, HBwr0, Ff2_0__128, Ff2_1__129, Okeys_7l0⟩ := hrel
    rename World => wr0
    cases gk with
    | zero =>
      obtain rfl : k0 = list.length := by omega
      have hc0 : decide (((list.length : Nat) : Int) < ((list.length : Nat) : Int)) = false := by simp
      replace H := cnt_zero H
      unfold e0 at H
      replace H := let_hid H
      obtain ⟨_, rfl, H⟩ := H
      obtain rfl := ret_hid H
      go_wp2_with fail
      go_ret
      exact ⟨Akeys_7l0, ckeys_7l0, rfl, Okeys_7l0.out, HBwr0.out⟩
    | succ m0 =>
      have hlt0 : k0 < list.length := by omega
      have hc0 : decide ((k0 : Int) < ((list.length : Nat) : Int)) = true := by simp; omega
      replace H := cnt_succ H
      unfold l0 at H
      replace H := let_hid H
      obtain ⟨_, rfl, H⟩ := H
      replace H := idx_hid H
      obtain ⟨nt_7, yt_7, et_7, lt_7, gt_7, H⟩ := H
      obtain rfl : k0 = nt_7 := by omega
      clear et_7
      obtain ⟨t_7_name, t_7_hue, t_7_width, t_7_dark, t_7_light⟩ := yt_7
      replace H := unShade_hid H
      obtain ⟨ab_t_7, ao_t_7, zt_7, At_7, z_t_7, ct_7_0, ct_7_1, ct_7_2, ct_7_3, ct_7_4⟩ := Go.Proofs.Ytpbbechgpgnpbaa.OShade.at_ M0.out lt_7
      obtain rfl := Option.some.inj (gt_7.out.symm.trans z_t_7)
      subst At_7
      have ltt_7 := cell_lt ct_7_0
      replace ct_7_0 := cell_below HBwr0.out ct_7_0
      replace ct_7_1 := cell_below HBwr0.out ct_7_1
      replace ct_7_2 := cell_below HBwr0.out ct_7_2
      replace ct_7_3 := cell_below HBwr0.out ct_7_3
      replace ct_7_4 := cell_below HBwr0.out ct_7_4
      clear z_t_7
      have b0t_7 : (0 : Int) ≤ (k0 : Int) := by omega
      have b1t_7 : (k0 : Int) < ((list.length : Nat) : Int) := by omega
      have b2t_7 : ((k0 : Int)).toNat = k0 := by omega
      obtain ⟨w_e_9, hw_e_9⟩ : ∃ x, wr0.alloc (.cells #[.string t_7_name, .int .i64 t_7_hue, .int .i64 t_7_width, .int .i64 t_7_dark, .int .i64 t_7_light] 26) = x := ⟨_, rfl⟩
      have bw_e_9 : Below wr0.heap.size wr0 w_e_9 := by rw [← hw_e_9]; exact (Below.refl _ _).alloc (Nat.le_refl _) _
      have De_9_keys_7l0 := Lib.hid (apart_fresh Okeys_7l0.out)
      have HBw_e_9 := Lib.hid (Below.step HBwr0.out bw_e_9)
      have Ff2_0__130 := cell_below bw_e_9 Ff2_0__128
      have Ff2_1__131 := cell_below bw_e_9 Ff2_1__129
      have ct_7_0__132 := cell_below bw_e_9 ct_7_0
      have ct_7_1__133 := cell_below bw_e_9 ct_7_1
      have ct_7_2__134 := cell_below bw_e_9 ct_7_2
      have ct_7_3__135 := cell_below bw_e_9 ct_7_3
      have ct_7_4__136 := cell_below bw_e_9 ct_7_4
      replace Okeys_7l0 := Lib.hid (own_below Okeys_7l0.out bw_e_9)
      clear bw_e_9
      have ke_9_0 : w_e_9.cell? ⟨wr0.heap.size, 0, none⟩ = some (.string t_7_name) := by rw [← hw_e_9]; exact box_new _ _ _ 0 _ rfl
      have ke_9_1 : w_e_9.cell? ⟨wr0.heap.size, 1, none⟩ = some (.int .i64 t_7_hue) := by rw [← hw_e_9]; exact box_new _ _ _ 1 _ rfl
      have ke_9_2 : w_e_9.cell? ⟨wr0.heap.size, 2, none⟩ = some (.int .i64 t_7_width) := by rw [← hw_e_9]; exact box_new _ _ _ 2 _ rfl
      have ke_9_3 : w_e_9.cell? ⟨wr0.heap.size, 3, none⟩ = some (.int .i64 t_7_dark) := by rw [← hw_e_9]; exact box_new _ _ _ 3 _ rfl
      have ke_9_4 : w_e_9.cell? ⟨wr0.heap.size, 4, none⟩ = some (.int .i64 t_7_light) := by rw [← hw_e_9]; exact box_new _ _ _ 4 _ rfl
      replace H := bind_hid H
      obtain ⟨t_13, qt_13, H⟩ := H
      go_wp2_with fail
      clear Ff2_0__128 Ff2_1__129 ct_7_0 ct_7_1 ct_7_2 ct_7_3 ct_7_4
      go_at_call 71
      refine (Go.Proofs.Ytpbbechgpgnpbaa.GiShadesOf1.C ((Go.Proofs.Ytpbbechgpgnpbaa.PShade.Shade.mk t_7_name t_7_hue t_7_width t_7_dark t_7_light)) (hf2_0) (hf2_1) (gf2_0) (gf2_1) _   (Lib.hid Ff2_0__130) (Lib.hid Ff2_1__131) qt_13).mono ?_
      rintro e_t_13 wt_13 ⟨rfl, bt_13⟩
      have HBwt_13 := Lib.hid (Below.step HBw_e_9.out bt_13)
      replace Ff2_0__130 := cell_below bt_13 Ff2_0__130
      replace Ff2_1__131 := cell_below bt_13 Ff2_1__131
      replace ct_7_0__132 := cell_below bt_13 ct_7_0__132
      replace ct_7_1__133 := cell_below bt_13 ct_7_1__133
      replace ct_7_2__134 := cell_below bt_13 ct_7_2__134
      replace ct_7_3__135 := cell_below bt_13 ct_7_3__135
      replace ct_7_4__136 := cell_below bt_13 ct_7_4__136
      replace ke_9_0 := cell_below bt_13 ke_9_0
      replace ke_9_1 := cell_below bt_13 ke_9_1
      replace ke_9_2 := cell_below bt_13 ke_9_2
      replace ke_9_3 := cell_below bt_13 ke_9_3
      replace ke_9_4 := cell_below bt_13 ke_9_4
      replace Okeys_7l0 := Lib.hid (own_below Okeys_7l0.out bt_13)
      clear bt_13
      cases t_13 with
      | false =>
        replace H := ite_f H
        replace H := app_hid H
        go_wp2_with fail
        go_roundg m0
        case measure => omega
        case rel => exact ⟨k0 + 1, _, _, _, by omega, by go_num, rfl, H, HBwt_13, Ff2_0__130, Ff2_1__131, Okeys_7l0⟩
      | true =>
        replace H := ite_t H
        replace H := bind_hid H
        obtain ⟨t_17, qt_17, H⟩ := H
        go_wp2_with fail
        go_at_call 62
        refine (Go.Proofs.Ytpbbechgpgnpbaa.GiNameOfShade.C ((Go.Proofs.Ytpbbechgpgnpbaa.PShade.Shade.mk t_7_name t_7_hue t_7_width t_7_dark t_7_light))  _    qt_17).mono ?_
        rintro e_t_17 wt_17 ⟨rfl, bt_17⟩
        have HBwt_17 := Lib.hid (Below.step HBwt_13.out bt_17)
        replace Ff2_0__130 := cell_below bt_17 Ff2_0__130
        replace Ff2_1__131 := cell_below bt_17 Ff2_1__131
        replace ct_7_0__132 := cell_below bt_17 ct_7_0__132
        replace ct_7_1__133 := cell_below bt_17 ct_7_1__133
        replace ct_7_2__134 := cell_below bt_17 ct_7_2__134
        replace ct_7_3__135 := cell_below bt_17 ct_7_3__135
        replace ct_7_4__136 := cell_below bt_17 ct_7_4__136
        replace ke_9_0 := cell_below bt_17 ke_9_0
        replace ke_9_1 := cell_below bt_17 ke_9_1
        replace ke_9_2 := cell_below bt_17 ke_9_2
        replace ke_9_3 := cell_below bt_17 ke_9_3
        replace ke_9_4 := cell_below bt_17 ke_9_4
        replace Okeys_7l0 := Lib.hid (own_below Okeys_7l0.out bt_17)
        clear bt_17
        obtain ⟨w_t_18, hw_t_18⟩ : ∃ x, wt_17.alloc (.cells #[.string t_17] 9) = x := ⟨_, rfl⟩
        have bw_t_18 : Below wt_17.heap.size wt_17 w_t_18 := by rw [← hw_t_18]; exact (Below.refl _ _).alloc (Nat.le_refl _) _
        have HBw_t_18 := Lib.hid (Below.step HBwt_17.out bw_t_18)
        have Ff2_0__137 := cell_below bw_t_18 Ff2_0__130
        have Ff2_1__138 := cell_below bw_t_18 Ff2_1__131
        have ct_7_0__139 := cell_below bw_t_18 ct_7_0__132
        have ct_7_1__140 := cell_below bw_t_18 ct_7_1__133
        have ct_7_2__141 := cell_below bw_t_18 ct_7_2__134
        have ct_7_3__142 := cell_below bw_t_18 ct_7_3__135
        have ct_7_4__143 := cell_below bw_t_18 ct_7_4__136
        have ke_9_0__144 := cell_below bw_t_18 ke_9_0
        have ke_9_1__145 := cell_below bw_t_18 ke_9_1
        have ke_9_2__146 := cell_below bw_t_18 ke_9_2
        have ke_9_3__147 := cell_below bw_t_18 ke_9_3
        have ke_9_4__148 := cell_below bw_t_18 ke_9_4
        replace Okeys_7l0 := Lib.hid (own_below Okeys_7l0.out bw_t_18)
        clear bw_t_18
        replace H := guard_hid H
        obtain ⟨hlt_19, H⟩ := H
        replace H := let_hid H
        obtain ⟨t_19, ht_19, H⟩ := H
        have hht_19 := Lib.hid ht_19
        clear ht_19
        have hst_19 := HBw_t_18.out.size
        go_wp2_with (at_builtin; refine wpList_append_own_at _ rfl _ _ 39 rfl w.heap.size 9 i0_9 (.string ByteArray.empty) 1 16 Try.underlying39 hi_9 hz0_9 hz1_9 hz2_9 rfl (by decide) _ _ _ rfl Okeys_7l0.out ⟨wt_17.heap.size, 0, none⟩ 1 1 [.string t_17] rfl rfl (news_new hw_t_18) (one_cells rfl) (by unfold maxLen; omega) (by omega) hst_19 ?_; intro vt_19 wt_19 ot_19 gt_19 zt_19 yt_19; clear zt_19; obtain ⟨qt_19, ct_19, rfl, pt_19⟩ := own_push hht_19.out (by simp) rfl ot_19; have Pt_19 := Lib.hid pt_19; have Yt_19 := Lib.hid yt_19; have Gt_19 := Lib.hid gt_19; clear ot_19 gt_19 pt_19 yt_19; refine stop_in ?_)
        refine stop_out ?_
        have HBwt_19 := Lib.hid (HBw_t_18.out.grown Gt_19.out hst_19 (fun q hq => (Okeys_7l0.out.lt q hq).1))
        clear hst_19
        have Dt_19_e_9 : Hid (Apart (some ⟨qt_19, 0, none⟩) _) := Lib.hid (apart_app (Apart.symm De_9_keys_7l0.out) (fun a_ ha_ => by cases ha_; exact cell_lt ke_9_0__144) Yt_19.out)
        replace Ff2_0__137 := cell_below HBwt_19.out Ff2_0h.out
        replace Ff2_1__138 := cell_below HBwt_19.out Ff2_1h.out
        replace ct_7_0__139 := cell_other ct_7_0__139 Gt_19.out (apart_old Okeys_7l0.out ltt_7)
        replace ct_7_1__140 := cell_other ct_7_1__140 Gt_19.out (apart_old Okeys_7l0.out ltt_7)
        replace ct_7_2__141 := cell_other ct_7_2__141 Gt_19.out (apart_old Okeys_7l0.out ltt_7)
        replace ct_7_3__142 := cell_other ct_7_3__142 Gt_19.out (apart_old Okeys_7l0.out ltt_7)
        replace ct_7_4__143 := cell_other ct_7_4__143 Gt_19.out (apart_old Okeys_7l0.out ltt_7)
        replace ke_9_0__144 := cell_other ke_9_0__144 Gt_19.out (Apart.symm De_9_keys_7l0.out)
        replace ke_9_1__145 := cell_other ke_9_1__145 Gt_19.out (Apart.symm De_9_keys_7l0.out)
        replace ke_9_2__146 := cell_other ke_9_2__146 Gt_19.out (Apart.symm De_9_keys_7l0.out)
        replace ke_9_3__147 := cell_other ke_9_3__147 Gt_19.out (Apart.symm De_9_keys_7l0.out)
        replace ke_9_4__148 := cell_other ke_9_4__148 Gt_19.out (Apart.symm De_9_keys_7l0.out)
        clear Ff2_0__130 Ff2_1__131 ct_7_0__132 ct_7_1__133 ct_7_2__134 ct_7_3__135 ct_7_4__136 ke_9_0 ke_9_1 ke_9_2 ke_9_3 ke_9_4
        clear Okeys_7l0 Yt_19 Gt_19
        replace H := app_hid H
        go_wp2_with fail
        go_roundg m0
        case measure => omega
        case rel => exact ⟨k0 + 1, _, _, _, by omega, by go_num, rfl, H, HBwt_19, Ff2_0__137, Ff2_1__138, Pt_19⟩
end Go.Proofs.Ytpbbechgpgnpbaa.GiKeysWhereShadeStringiNameOfShadeiShadesOf1

/- loop.example/g01062/impl.ShadesOf as a plain function, and the contract of the program's: where the plain one has an answer, the program has it. Conditions: slices read as lists. -/
namespace Go.Proofs.Ytpbbechgpgnpbaa.GiShadesOf
set_option linter.unusedVariables false
set_option linter.unusedSimpArgs false
open Go.RowKit
open Go.Proofs.Ytpbbechgpgnpbaa.Rowed Go.Proofs.Ytpbbechgpgnpbaa.Turn Go.Proofs.Ytpbbechgpgnpbaa.Aid Go.Proofs.Ytpbbechgpgnpbaa.GoP Go.Proofs.Ytpbbechgpgnpbaa.GoM

def P (list : (List Go.Proofs.Ytpbbechgpgnpbaa.PShade.Shade)) (hue : Int) (light : Int) : Option ((List ByteArray) × Bool) :=
  Option.bind (Go.Proofs.Ytpbbechgpgnpbaa.GiCanLook.P list hue light) fun (t_7 : Bool) =>
  letK (!t_7) fun (t_8 : Bool) =>
  iteK t_8
  (some (([] : List ByteArray), false))
  (Option.bind (Go.Proofs.Ytpbbechgpgnpbaa.GiKeysWhereShadeStringiNameOfShadeiShadesOf1.P list hue light) fun (t_14 : (List ByteArray)) =>
  some (t_14, true))

set_option maxRecDepth 100000 in
set_option maxHeartbeats 2000000 in
theorem C (list : (List Go.Proofs.Ytpbbechgpgnpbaa.PShade.Shade)) (hue : Int) (light : Int) (A0 : Option Addr) (c0 : Nat)  (w : World) (M0 : Hid (Cells w 5 A0 list.length (Go.Proofs.Ytpbbechgpgnpbaa.PShade.flat list))) (N0 : Hid (list.length ≤ 9223372036854775807))  {r0 : (List ByteArray)} {r1 : Bool} (H : Hid (P list hue light = some (r0, r1))) :
    Calls Try.prog 27 #[.slice A0 list.length c0, .int .i64 hue, .int .i64 light] w (fun e w' => ∃ A_r0 c_r0, e = .returned (.tuple #[.slice A_r0 r0.length c_r0, .bool r1]) ∧ w'.ownsRow w.heap.size 9 1 (.slice A_r0 r0.length c_r0) r0.length (r0.map Value.string) ∧ Below w.heap.size w w') := by
  have HB := Lib.hid (Below.refl w.heap.size w)
  unfold P at H
  have N0o := N0.out
  go_enter Try.func27, Try.ntmps27
  obtain ⟨w_hue_0, hw_hue_0⟩ : ∃ x, w.alloc (.cells #[.int .i64 hue] 3) = x := ⟨_, rfl⟩
  have bw_hue_0 : Below w.heap.size w w_hue_0 := by rw [← hw_hue_0]; exact (Below.refl _ _).alloc (Nat.le_refl _) _
  have HBw_hue_0 := Lib.hid (Below.step HB.out bw_hue_0)
  clear bw_hue_0
  have khue_0_0 : w_hue_0.cell? ⟨w.heap.size, 0, none⟩ = some (.int .i64 hue) := by rw [← hw_hue_0]; exact box_new _ _ _ 0 _ rfl
  obtain ⟨w_light_1, hw_light_1⟩ : ∃ x, w_hue_0.alloc (.cells #[.int .i64 light] 3) = x := ⟨_, rfl⟩
  have bw_light_1 : Below w_hue_0.heap.size w_hue_0 w_light_1 := by rw [← hw_light_1]; exact (Below.refl _ _).alloc (Nat.le_refl _) _
  have HBw_light_1 := Lib.hid (Below.step HBw_hue_0.out bw_light_1)
  have khue_0_0__149 := cell_below bw_light_1 khue_0_0
  clear bw_light_1
  have klight_1_0 : w_light_1.cell? ⟨w_hue_0.heap.size, 0, none⟩ = some (.int .i64 light) := by rw [← hw_light_1]; exact box_new _ _ _ 0 _ rfl
  replace H := bind_hid H
  obtain ⟨t_7, qt_7, H⟩ := H
  go_wp2_with fail
  clear khue_0_0
  go_at_call 69
  refine (Go.Proofs.Ytpbbechgpgnpbaa.GiCanLook.C (list) (hue) (light) A0 c0 _   (Lib.hid (Cells.below M0.out HBw_light_1.out)) N0 qt_7).mono ?_
  rintro e_t_7 wt_7 ⟨rfl, bt_7⟩
  have HBwt_7 := Lib.hid (Below.step HBw_light_1.out bt_7)
  replace khue_0_0__149 := cell_below bt_7 khue_0_0__149
  replace klight_1_0 := cell_below bt_7 klight_1_0
  clear bt_7
  cases t_7 with
  | false =>
    replace H := let_hid H
    obtain ⟨t_8, ht_8, H⟩ := H
    obtain rfl : t_8 = true := ht_8.symm
    replace H := ite_t H
    obtain ⟨w_t_9, hw_t_9⟩ : ∃ x, wt_7.alloc (.cells #[] 9) = x := ⟨_, rfl⟩
    have bw_t_9 : Below wt_7.heap.size wt_7 w_t_9 := by rw [← hw_t_9]; exact (Below.refl _ _).alloc (Nat.le_refl _) _
    have Ot_9 : Hid (w_t_9.ownsRow w.heap.size 9 1 (.slice (some ⟨wt_7.heap.size, 0, none⟩) 0 0) 0 []) := Lib.hid (by rw [← hw_t_9]; exact own_empty HBwt_7.out.size)
    have Dt_9_hue_0 := Lib.hid (apart_box khue_0_0__149)
    have Dt_9_light_1 := Lib.hid (apart_box klight_1_0)
    have HBw_t_9 := Lib.hid (Below.step HBwt_7.out bw_t_9)
    have khue_0_0__150 := cell_below bw_t_9 khue_0_0__149
    have klight_1_0__151 := cell_below bw_t_9 klight_1_0
    clear bw_t_9
    cases ret_hid H
    go_wp2_with fail
    go_ret2
    exact ⟨(some ⟨wt_7.heap.size, 0, none⟩), 0, rfl, Ot_9.out, HBw_t_9.out⟩
  | true =>
    replace H := let_hid H
    obtain ⟨t_8, ht_8, H⟩ := H
    obtain rfl : t_8 = false := ht_8.symm
    replace H := ite_f H
    replace H := bind_hid H
    obtain ⟨t_14, qt_14, H⟩ := H
    go_wp2_with fail
    go_at_call 70
    refine (Go.Proofs.Ytpbbechgpgnpbaa.GiKeysWhereShadeStringiNameOfShadeiShadesOf1.C (list) (hue) (light) A0 c0 (w.heap.size) (w_hue_0.heap.size) _   (Lib.hid (Cells.below M0.out HBwt_7.out)) N0 (Lib.hid khue_0_0__149) (Lib.hid klight_1_0) qt_14).mono ?_
    rintro e_t_14 wt_14 ⟨At_14, ct_14, rfl, ot_14, bt_14⟩
    have Dt_14_hue_0 := Lib.hid (apart_callbox ot_14 khue_0_0__149)
    have Dt_14_light_1 := Lib.hid (apart_callbox ot_14 klight_1_0)
    have Ot_14 := Lib.hid (own_lower ot_14 HBwt_7.out.size)
    clear ot_14
    have HBwt_14 := Lib.hid (Below.step HBwt_7.out bt_14)
    replace khue_0_0__149 := cell_below bt_14 khue_0_0__149
    replace klight_1_0 := cell_below bt_14 klight_1_0
    clear bt_14
    cases ret_hid H
    go_wp2_with fail
    go_ret2
    exact ⟨At_14, ct_14, rfl, Ot_14.out, HBwt_14.out⟩
end Go.Proofs.Ytpbbechgpgnpbaa.GiShadesOf

/- loop.example/g01062/laws.eqStringS as a plain function, and the contract of the program's: where the plain one has an answer, the program has it. Conditions: slices read as lists. -/
namespace Go.Proofs.Ytpbbechgpgnpbaa.GlEqStringS
set_option linter.unusedVariables false
set_option linter.unusedSimpArgs false
open Go.RowKit
open Go.Proofs.Ytpbbechgpgnpbaa.Rowed Go.Proofs.Ytpbbechgpgnpbaa.Turn Go.Proofs.Ytpbbechgpgnpbaa.Aid Go.Proofs.Ytpbbechgpgnpbaa.GoP Go.Proofs.Ytpbbechgpgnpbaa.GoM

def l0 (a : (List ByteArray)) (b : (List ByteArray)) (k0 : Nat) (s : Unit) (nx0 bk0 : Unit → Option (Bool)) : Option (Bool) :=
  
  Option.bind (idx a (k0 : Int)) fun (yt_14 : ByteArray) =>
  Option.bind (idx b (k0 : Int)) fun (yt_18 : ByteArray) =>
  letK (!(yt_14.toList == yt_18.toList)) fun (t_20 : Bool) =>
  iteK t_20
  (some false)
  (appK nx0 ())

def e0  (s : Unit) : Option (Bool) :=
  
  some true

def P (a : (List ByteArray)) (b : (List ByteArray)) : Option (Bool) :=
  letK ((a.length : Int) != (b.length : Int)) fun (t_5 : Bool) =>
  iteK t_5
  (some false)
  (cntK (l0 a b) (a.length) 0 () (e0 ))

set_option maxRecDepth 100000 in
set_option maxHeartbeats 2000000 in
theorem C (a : (List ByteArray)) (b : (List ByteArray)) (A0 : Option Addr) (c0 : Nat) (A1 : Option Addr) (c1 : Nat)  (w : World) (M0 : Hid (Cells w 1 A0 a.length (a.map Value.string))) (N0 : Hid (a.length ≤ 9223372036854775807)) (M1 : Hid (Cells w 1 A1 b.length (b.map Value.string))) (N1 : Hid (b.length ≤ 9223372036854775807))  {r : Bool} (H : Hid (P a b = some r)) :
    Calls Try.prog 28 #[.slice A0 a.length c0, .slice A1 b.length c1] w (Gives (.bool r) w) := by
  have HB := Lib.hid (Below.refl w.heap.size w)
  unfold P at H
  have N0o := N0.out
  have N1o := N1.out
  go_enter Try.func28, Try.ntmps28
  replace H := let_hid H
  obtain ⟨t_5, ht_5, H⟩ := H
  cases t_5 with
  | false =>
    have Hht_5 : Hid (a.length = b.length) := Lib.hid (by have := bne_eq_false_iff_eq.1 ht_5; omega)
    have nht_5 : (a.length == b.length) = true := beq_iff_eq.2 Hht_5.out
    replace H := ite_f H
    go_wp2_with fail
    go_loopg [5] (a.length) (fun m_ v5_ wr => ∃ (k0 : Nat) , k0 + m_ = a.length ∧ v5_ = .int .i64 (k0 : Int) ∧ Hid (cntK (l0 a b) m_ k0 () (e0 ) = some r) ∧ Hid (Below w.heap.size w wr))
    case atStart => exact ⟨0, by omega, rfl, H, HB⟩
    case round =>
      obtain ⟨k0, hkm0, rfl, H, HBwr0⟩ := hrel
      rename World => wr0
      cases gk with
      | zero =>
        obtain rfl : k0 = a.length := by omega
        have hc0 : decide (((a.length : Nat) : Int) < ((a.length : Nat) : Int)) = false := by simp
        replace H := cnt_zero H
        unfold e0 at H
        obtain rfl := ret_hid H
        go_wp2_with fail
        go_ret
        exact ⟨rfl, HBwr0.out⟩
      | succ m0 =>
        have hlt0 : k0 < a.length := by omega
        have hc0 : decide ((k0 : Int) < ((a.length : Nat) : Int)) = true := by simp; omega
        replace H := cnt_succ H
        unfold l0 at H
        go_wp2_with fail
        replace H := idx_hid H
        obtain ⟨nt_14, yt_14, et_14, lt_14, gt_14, H⟩ := H
        obtain rfl : k0 = nt_14 := by omega
        clear et_14
        obtain ⟨ab_t_14, ao_t_14, zt_14, At_14, z_t_14, ct_14_0⟩ := strs_at M0.out lt_14
        obtain rfl := Option.some.inj (gt_14.out.symm.trans z_t_14)
        subst At_14
        have ltt_14 := cell_lt ct_14_0
        replace ct_14_0 := cell_below HBwr0.out ct_14_0
        clear z_t_14
        have b0t_14 : (0 : Int) ≤ (k0 : Int) := by omega
        have b1t_14 : (k0 : Int) < ((a.length : Nat) : Int) := by omega
        have b2t_14 : ((k0 : Int)).toNat = k0 := by omega
        have Hct_14_0 := Lib.hid ct_14_0
        replace ct_14_0 := cell_regrown ct_14_0
        replace H := idx_hid H
        obtain ⟨nt_18, yt_18, et_18, lt_18, gt_18, H⟩ := H
        obtain rfl : k0 = nt_18 := by omega
        clear et_18
        obtain ⟨ab_t_18, ao_t_18, zt_18, At_18, z_t_18, ct_18_0⟩ := strs_at M1.out lt_18
        obtain rfl := Option.some.inj (gt_18.out.symm.trans z_t_18)
        subst At_18
        have ltt_18 := cell_lt ct_18_0
        replace ct_18_0 := cell_below HBwr0.out ct_18_0
        clear z_t_18
        have b0t_18 : (0 : Int) ≤ (k0 : Int) := by omega
        have b1t_18 : (k0 : Int) < ((b.length : Nat) : Int) := by omega
        have b2t_18 : ((k0 : Int)).toNat = k0 := by omega
        have Hct_18_0 := Lib.hid ct_18_0
        replace ct_18_0 := cell_regrown ct_18_0
        replace H := let_hid H
        obtain ⟨t_20, ht_20, H⟩ := H
        refine wp_region_quiet_below (by kernel_rfl) (by kernel_rfl) ?_
        repeat (go_big_quiet_step (fail))
        refine wpQuiet_nil ?_
        intro Y6 hY6
        replace hY6 := below_class hY6
        replace ct_14_0 := Hct_14_0.out
        clear Hct_14_0
        replace ct_18_0 := Hct_18_0.out
        clear Hct_18_0
        have HBY6 := Lib.hid (Below.step HBwr0.out hY6)
        replace ct_14_0 := cell_below hY6 ct_14_0
        replace ct_18_0 := cell_below hY6 ct_18_0
        clear hY6
        cases t_20 with
        | false =>
          replace H := ite_f H
          replace H := app_hid H
          go_wp2_with fail
          go_roundg m0
          case measure => omega
          case rel => exact ⟨k0 + 1, by omega, by go_num, H, HBY6⟩
        | true =>
          replace H := ite_t H
          obtain rfl := ret_hid H
          go_wp2_with fail
          go_ret
          exact ⟨rfl, HBY6.out⟩
  | true =>
    have nht_5 : ¬ (a.length = b.length) := by have := bne_iff_ne.1 ht_5; omega
    replace H := ite_t H
    obtain rfl := ret_hid H
    go_wp2_with fail
    go_ret
    exact ⟨rfl, HB.out⟩
end Go.Proofs.Ytpbbechgpgnpbaa.GlEqStringS

/- loop.example/g01062/laws.eqShade as a plain function, and the contract of the program's: where the plain one has an answer, the program has it. Conditions: slices read as lists. -/
namespace Go.Proofs.Ytpbbechgpgnpbaa.GlEqShade
set_option linter.unusedVariables false
set_option linter.unusedSimpArgs false
open Go.RowKit
open Go.Proofs.Ytpbbechgpgnpbaa.Rowed Go.Proofs.Ytpbbechgpgnpbaa.Turn Go.Proofs.Ytpbbechgpgnpbaa.Aid Go.Proofs.Ytpbbechgpgnpbaa.GoP Go.Proofs.Ytpbbechgpgnpbaa.GoM

def P (a : Go.Proofs.Ytpbbechgpgnpbaa.PShade.Shade) (b : Go.Proofs.Ytpbbechgpgnpbaa.PShade.Shade) : Option (Bool) :=
  unShade a fun (a_name : ByteArray) (a_hue : Int) (a_width : Int) (a_dark : Int) (a_light : Int) =>
  unShade b fun (b_name : ByteArray) (b_hue : Int) (b_width : Int) (b_dark : Int) (b_light : Int) =>
  letK (!(a_name.toList == b_name.toList)) fun (t_7 : Bool) =>
  iteK t_7
  (some false)
  (letK (a_hue != b_hue) fun (t_13 : Bool) =>
  iteK t_13
  (some false)
  (letK (a_width != b_width) fun (t_19 : Bool) =>
  iteK t_19
  (some false)
  (letK (a_dark != b_dark) fun (t_25 : Bool) =>
  iteK t_25
  (some false)
  (letK (a_light != b_light) fun (t_31 : Bool) =>
  iteK t_31
  (some false)
  (some true)))))

set_option maxRecDepth 100000 in
set_option maxHeartbeats 2000000 in
theorem C (a : Go.Proofs.Ytpbbechgpgnpbaa.PShade.Shade) (b : Go.Proofs.Ytpbbechgpgnpbaa.PShade.Shade)   (w : World)   {r : Bool} (H : Hid (P a b = some r)) :
    Calls Try.prog 63 #[a.val, b.val] w (Gives (.bool r) w) := by
  have HB := Lib.hid (Below.refl w.heap.size w)
  unfold P at H
  obtain ⟨a_name, a_hue, a_width, a_dark, a_light⟩ := a
  replace H := unShade_hid H
  obtain ⟨b_name, b_hue, b_width, b_dark, b_light⟩ := b
  replace H := unShade_hid H
  unfold Go.Proofs.Ytpbbechgpgnpbaa.PShade.Shade.val
  go_enter Try.func63, Try.ntmps63
  obtain ⟨w_a_0, hw_a_0⟩ : ∃ x, w.alloc (.cells #[.string a_name, .int .i64 a_hue, .int .i64 a_width, .int .i64 a_dark, .int .i64 a_light] 26) = x := ⟨_, rfl⟩
  have bw_a_0 : Below w.heap.size w w_a_0 := by rw [← hw_a_0]; exact (Below.refl _ _).alloc (Nat.le_refl _) _
  have HBw_a_0 := Lib.hid (Below.step HB.out bw_a_0)
  clear bw_a_0
  have ka_0_0 : w_a_0.cell? ⟨w.heap.size, 0, none⟩ = some (.string a_name) := by rw [← hw_a_0]; exact box_new _ _ _ 0 _ rfl
  have ka_0_1 : w_a_0.cell? ⟨w.heap.size, 1, none⟩ = some (.int .i64 a_hue) := by rw [← hw_a_0]; exact box_new _ _ _ 1 _ rfl
  have ka_0_2 : w_a_0.cell? ⟨w.heap.size, 2, none⟩ = some (.int .i64 a_width) := by rw [← hw_a_0]; exact box_new _ _ _ 2 _ rfl
  have ka_0_3 : w_a_0.cell? ⟨w.heap.size, 3, none⟩ = some (.int .i64 a_dark) := by rw [← hw_a_0]; exact box_new _ _ _ 3 _ rfl
  have ka_0_4 : w_a_0.cell? ⟨w.heap.size, 4, none⟩ = some (.int .i64 a_light) := by rw [← hw_a_0]; exact box_new _ _ _ 4 _ rfl
  obtain ⟨w_b_1, hw_b_1⟩ : ∃ x, w_a_0.alloc (.cells #[.string b_name, .int .i64 b_hue, .int .i64 b_width, .int .i64 b_dark, .int .i64 b_light] 26) = x := ⟨_, rfl⟩
  have bw_b_1 : Below w_a_0.heap.size w_a_0 w_b_1 := by rw [← hw_b_1]; exact (Below.refl _ _).alloc (Nat.le_refl _) _
  have HBw_b_1 := Lib.hid (Below.step HBw_a_0.out bw_b_1)
  have ka_0_0__192 := cell_below bw_b_1 ka_0_0
  have ka_0_1__193 := cell_below bw_b_1 ka_0_1
  have ka_0_2__194 := cell_below bw_b_1 ka_0_2
  have ka_0_3__195 := cell_below bw_b_1 ka_0_3
  have ka_0_4__196 := cell_below bw_b_1 ka_0_4
  clear bw_b_1
  have kb_1_0 : w_b_1.cell? ⟨w_a_0.heap.size, 0, none⟩ = some (.string b_name) := by rw [← hw_b_1]; exact box_new _ _ _ 0 _ rfl
  have kb_1_1 : w_b_1.cell? ⟨w_a_0.heap.size, 1, none⟩ = some (.int .i64 b_hue) := by rw [← hw_b_1]; exact box_new _ _ _ 1 _ rfl
  have kb_1_2 : w_b_1.cell? ⟨w_a_0.heap.size, 2, none⟩ = some (.int .i64 b_width) := by rw [← hw_b_1]; exact box_new _ _ _ 2 _ rfl
  have kb_1_3 : w_b_1.cell? ⟨w_a_0.heap.size, 3, none⟩ = some (.int .i64 b_dark) := by rw [← hw_b_1]; exact box_new _ _ _ 3 _ rfl
  have kb_1_4 : w_b_1.cell? ⟨w_a_0.heap.size, 4, none⟩ = some (.int .i64 b_light) := by rw [← hw_b_1]; exact box_new _ _ _ 4 _ rfl
  replace H := let_hid H
  obtain ⟨t_7, ht_7, H⟩ := H
  cases t_7 with
  | false =>
    replace H := ite_f H
    replace H := let_hid H
    obtain ⟨t_13, ht_13, H⟩ := H
    cases t_13 with
    | false =>
      replace H := ite_f H
      replace H := let_hid H
      obtain ⟨t_19, ht_19, H⟩ := H
      cases t_19 with
      | false =>
        replace H := ite_f H
        replace H := let_hid H
        obtain ⟨t_25, ht_25, H⟩ := H
        cases t_25 with
        | false =>
          replace H := ite_f H
          replace H := let_hid H
          obtain ⟨t_31, ht_31, H⟩ := H
          cases t_31 with
          | false =>
            replace H := ite_f H
            obtain rfl := ret_hid H
            go_wp2_with fail
            go_ret
            exact ⟨rfl, HBw_b_1.out⟩
          | true =>
            replace H := ite_t H
            obtain rfl := ret_hid H
            go_wp2_with fail
            go_ret
            exact ⟨rfl, HBw_b_1.out⟩
        | true =>
          replace H := ite_t H
          obtain rfl := ret_hid H
          go_wp2_with fail
          go_ret
          exact ⟨rfl, HBw_b_1.out⟩
      | true =>
        replace H := ite_t H
        obtain rfl := ret_hid H
        go_wp2_with fail
        go_ret
        exact ⟨rfl, HBw_b_1.out⟩
    | true =>
      replace H := ite_t H
      obtain rfl := ret_hid H
      go_wp2_with fail
      go_ret
      exact ⟨rfl, HBw_b_1.out⟩
  | true =>
    replace H := ite_t H
    obtain rfl := ret_hid H
    go_wp2_with fail
    go_ret
    exact ⟨rfl, HBw_b_1.out⟩
end Go.Proofs.Ytpbbechgpgnpbaa.GlEqShade

/- loop.example/g01062/laws.eqShadeS as a plain function, and the contract of the program's: where the plain one has an answer, the program has it. Conditions: slices read as lists. -/
namespace Go.Proofs.Ytpbbechgpgnpbaa.GlEqShadeS
set_option linter.unusedVariables false
set_option linter.unusedSimpArgs false
open Go.RowKit
open Go.Proofs.Ytpbbechgpgnpbaa.Rowed Go.Proofs.Ytpbbechgpgnpbaa.Turn Go.Proofs.Ytpbbechgpgnpbaa.Aid Go.Proofs.Ytpbbechgpgnpbaa.GoP Go.Proofs.Ytpbbechgpgnpbaa.GoM

def l0 (a : (List Go.Proofs.Ytpbbechgpgnpbaa.PShade.Shade)) (b : (List Go.Proofs.Ytpbbechgpgnpbaa.PShade.Shade)) (k0 : Nat) (s : Unit) (nx0 bk0 : Unit → Option (Bool)) : Option (Bool) :=
  
  Option.bind (idx a (k0 : Int)) fun (yt_14 : Go.Proofs.Ytpbbechgpgnpbaa.PShade.Shade) =>
  unShade yt_14 fun (t_14_name : ByteArray) (t_14_hue : Int) (t_14_width : Int) (t_14_dark : Int) (t_14_light : Int) =>
  Option.bind (idx b (k0 : Int)) fun (yt_18 : Go.Proofs.Ytpbbechgpgnpbaa.PShade.Shade) =>
  unShade yt_18 fun (t_18_name : ByteArray) (t_18_hue : Int) (t_18_width : Int) (t_18_dark : Int) (t_18_light : Int) =>
  Option.bind (Go.Proofs.Ytpbbechgpgnpbaa.GlEqShade.P (Go.Proofs.Ytpbbechgpgnpbaa.PShade.Shade.mk t_14_name t_14_hue t_14_width t_14_dark t_14_light) (Go.Proofs.Ytpbbechgpgnpbaa.PShade.Shade.mk t_18_name t_18_hue t_18_width t_18_dark t_18_light)) fun (t_20 : Bool) =>
  letK (!t_20) fun (t_21 : Bool) =>
  iteK t_21
  (some false)
  (appK nx0 ())

def e0  (s : Unit) : Option (Bool) :=
  
  some true

def P (a : (List Go.Proofs.Ytpbbechgpgnpbaa.PShade.Shade)) (b : (List Go.Proofs.Ytpbbechgpgnpbaa.PShade.Shade)) : Option (Bool) :=
  letK ((a.length : Int) != (b.length : Int)) fun (t_5 : Bool) =>
  iteK t_5
  (some false)
  (cntK (l0 a b) (a.length) 0 () (e0 ))

set_option maxRecDepth 100000 in
set_option maxHeartbeats 2000000 in
theorem C (a : (List Go.Proofs.Ytpbbechgpgnpbaa.PShade.Shade)) (b : (List Go.Proofs.Ytpbbechgpgnpbaa.PShade.Shade)) (A0 : Option Addr) (c0 : Nat) (A1 : Option Addr) (c1 : Nat)  (w : World) (M0 : Hid (Cells w 5 A0 a.length (Go.Proofs.Ytpbbechgpgnpbaa.PShade.flat a))) (N0 : Hid (a.length ≤ 9223372036854775807)) (M1 : Hid (Cells w 5 A1 b.length (Go.Proofs.Ytpbbechgpgnpbaa.PShade.flat b))) (N1 : Hid (b.length ≤ 9223372036854775807))  {r : Bool} (H : Hid (P a b = some r)) :
    Calls Try.prog 23 #[.slice A0 a.length c0, .slice A1 b.length c1] w (Gives (.bool r) w) := by
  have HB := Lib.hid (Below.refl w.heap.size w)
  unfold P at H
  have N0o := N0.out
  have N1o := N1.out
  go_enter Try.func23, Try.ntmps23
  replace H := let_hid H
  obtain ⟨t_5, ht_5, H⟩ := H
  cases t_5 with
  | false =>
    have Hht_5 : Hid (a.length = b.length) := Lib.hid (by have := bne_eq_false_iff_eq.1 ht_5; omega)
    have nht_5 : (a.length == b.length) = true := beq_iff_eq.2 Hht_5.out
    replace H := ite_f H
    go_wp2_with fail
    go_loopg [5] (a.length) (fun m_ v5_ wr => ∃ (k0 : Nat) , k0 + m_ = a.length ∧ v5_ = .int .i64 (k0 : Int) ∧ Hid (cntK (l0 a b) m_ k0 () (e0 ) = some r) ∧ Hid (Below w.heap.size w wr))
    case atStart => exact ⟨0, by omega, rfl, H, HB⟩
    case round =>
      obtain ⟨k0, hkm0, rfl, H, HBwr0⟩ := hrel
      rename World => wr0
      cases gk with
      | zero =>
        obtain rfl : k0 = a.length := by omega
        have hc0 : decide (((a.length : Nat) : Int) < ((a.length : Nat) : Int)) = false := by simp
        replace H := cnt_zero H
        unfold e0 at H
        obtain rfl := ret_hid H
        go_wp2_with fail
        go_ret
        exact ⟨rfl, HBwr0.out⟩
      | succ m0 =>
        have hlt0 : k0 < a.length := by omega
        have hc0 : decide ((k0 : Int) < ((a.length : Nat) : Int)) = true := by simp; omega
        replace H := cnt_succ H
        unfold l0 at H
        go_wp2_with fail
        replace H := idx_hid H
        obtain ⟨nt_14, yt_14, et_14, lt_14, gt_14, H⟩ := H
        obtain rfl : k0 = nt_14 := by omega
        clear et_14
        obtain ⟨t_14_name, t_14_hue, t_14_width, t_14_dark, t_14_light⟩ := yt_14
        replace H := unShade_hid H
        obtain ⟨ab_t_14, ao_t_14, zt_14, At_14, z_t_14, ct_14_0, ct_14_1, ct_14_2, ct_14_3, ct_14_4⟩ := Go.Proofs.Ytpbbechgpgnpbaa.OShade.at_ M0.out lt_14
        obtain rfl := Option.some.inj (gt_14.out.symm.trans z_t_14)
        subst At_14
        have ltt_14 := cell_lt ct_14_0
        replace ct_14_0 := cell_below HBwr0.out ct_14_0
        replace ct_14_1 := cell_below HBwr0.out ct_14_1
        replace ct_14_2 := cell_below HBwr0.out ct_14_2
        replace ct_14_3 := cell_below HBwr0.out ct_14_3
        replace ct_14_4 := cell_below HBwr0.out ct_14_4
        clear z_t_14
        have b0t_14 : (0 : Int) ≤ (k0 : Int) := by omega
        have b1t_14 : (k0 : Int) < ((a.length : Nat) : Int) := by omega
        have b2t_14 : ((k0 : Int)).toNat = k0 := by omega
        have Hct_14_0 := Lib.hid ct_14_0
        replace ct_14_0 := cell_regrown ct_14_0
        have Hct_14_1 := Lib.hid ct_14_1
        replace ct_14_1 := cell_regrown ct_14_1
        have Hct_14_2 := Lib.hid ct_14_2
        replace ct_14_2 := cell_regrown ct_14_2
        have Hct_14_3 := Lib.hid ct_14_3
        replace ct_14_3 := cell_regrown ct_14_3
        have Hct_14_4 := Lib.hid ct_14_4
        replace ct_14_4 := cell_regrown ct_14_4
        replace H := idx_hid H
        obtain ⟨nt_18, yt_18, et_18, lt_18, gt_18, H⟩ := H
        obtain rfl : k0 = nt_18 := by omega
        clear et_18
        obtain ⟨t_18_name, t_18_hue, t_18_width, t_18_dark, t_18_light⟩ := yt_18
        replace H := unShade_hid H
        obtain ⟨ab_t_18, ao_t_18, zt_18, At_18, z_t_18, ct_18_0, ct_18_1, ct_18_2, ct_18_3, ct_18_4⟩ := Go.Proofs.Ytpbbechgpgnpbaa.OShade.at_ M1.out lt_18
        obtain rfl := Option.some.inj (gt_18.out.symm.trans z_t_18)
        subst At_18
        have ltt_18 := cell_lt ct_18_0
        replace ct_18_0 := cell_below HBwr0.out ct_18_0
        replace ct_18_1 := cell_below HBwr0.out ct_18_1
        replace ct_18_2 := cell_below HBwr0.out ct_18_2
        replace ct_18_3 := cell_below HBwr0.out ct_18_3
        replace ct_18_4 := cell_below HBwr0.out ct_18_4
        clear z_t_18
        have b0t_18 : (0 : Int) ≤ (k0 : Int) := by omega
        have b1t_18 : (k0 : Int) < ((b.length : Nat) : Int) := by omega
        have b2t_18 : ((k0 : Int)).toNat = k0 := by omega
        have Hct_18_0 := Lib.hid ct_18_0
        replace ct_18_0 := cell_regrown ct_18_0
        have Hct_18_1 := Lib.hid ct_18_1
        replace ct_18_1 := cell_regrown ct_18_1
        have Hct_18_2 := Lib.hid ct_18_2
        replace ct_18_2 := cell_regrown ct_18_2
        have Hct_18_3 := Lib.hid ct_18_3
        replace ct_18_3 := cell_regrown ct_18_3
        have Hct_18_4 := Lib.hid ct_18_4
        replace ct_18_4 := cell_regrown ct_18_4
        replace H := bind_hid H
        obtain ⟨t_20, qt_20, H⟩ := H
        have nt_20 : ∀ d os, Calls Try.prog 63 #[.agg #[.string t_14_name, .int .i64 t_14_hue, .int .i64 t_14_width, .int .i64 t_14_dark, .int .i64 t_14_light], .agg #[.string t_18_name, .int .i64 t_18_hue, .int .i64 t_18_width, .int .i64 t_18_dark, .int .i64 t_18_light]] (Go.Sort.grow (redrawn wr0 d) os) fun e w'' => e = .returned (.bool t_20) ∧ ∃ p : Regrown, w'' = Go.Sort.grow (redrawn wr0 p.d) p.os := fun d os => Calls.regrown_of (Go.Proofs.Ytpbbechgpgnpbaa.GlEqShade.C ((Go.Proofs.Ytpbbechgpgnpbaa.PShade.Shade.mk t_14_name t_14_hue t_14_width t_14_dark t_14_light)) ((Go.Proofs.Ytpbbechgpgnpbaa.PShade.Shade.mk t_18_name t_18_hue t_18_width t_18_dark t_18_light))  _    qt_20)
        cases t_20 with
        | false =>
          replace H := let_hid H
          obtain ⟨t_21, ht_21, H⟩ := H
          obtain rfl : t_21 = true := ht_21.symm
          refine wp_region_quiet_below (by kernel_rfl) (by kernel_rfl) ?_
          repeat (go_big_quiet_step (first | (go_at_call 63; exact nt_20 _ _)))
          refine wpQuiet_nil ?_
          intro Y6 hY6
          replace hY6 := below_class hY6
          clear nt_20
          replace ct_14_0 := Hct_14_0.out
          clear Hct_14_0
          replace ct_14_1 := Hct_14_1.out
          clear Hct_14_1
          replace ct_14_2 := Hct_14_2.out
          clear Hct_14_2
          replace ct_14_3 := Hct_14_3.out
          clear Hct_14_3
          replace ct_14_4 := Hct_14_4.out
          clear Hct_14_4
          replace ct_18_0 := Hct_18_0.out
          clear Hct_18_0
          replace ct_18_1 := Hct_18_1.out
          clear Hct_18_1
          replace ct_18_2 := Hct_18_2.out
          clear Hct_18_2
          replace ct_18_3 := Hct_18_3.out
          clear Hct_18_3
          replace ct_18_4 := Hct_18_4.out
          clear Hct_18_4
          have HBY6 := Lib.hid (Below.step HBwr0.out hY6)
          replace ct_14_0 := cell_below hY6 ct_14_0
          replace ct_14_1 := cell_below hY6 ct_14_1
          replace ct_14_2 := cell_below hY6 ct_14_2
          replace ct_14_3 := cell_below hY6 ct_14_3
          replace ct_14_4 := cell_below hY6 ct_14_4
          replace ct_18_0 := cell_below hY6 ct_18_0
          replace ct_18_1 := cell_below hY6 ct_18_1
          replace ct_18_2 := cell_below hY6 ct_18_2
          replace ct_18_3 := cell_below hY6 ct_18_3
          replace ct_18_4 := cell_below hY6 ct_18_4
          clear hY6
          replace H := ite_t H
          obtain rfl := ret_hid H
          go_wp2_with fail
          go_ret
          exact ⟨rfl, HBY6.out⟩
        | true =>
          replace H := let_hid H
          obtain ⟨t_21, ht_21, H⟩ := H
          obtain rfl : t_21 = false := ht_21.symm
          refine wp_region_quiet_below (by kernel_rfl) (by kernel_rfl) ?_
          repeat (go_big_quiet_step (first | (go_at_call 63; exact nt_20 _ _)))
          refine wpQuiet_nil ?_
          intro Y6 hY6
          replace hY6 := below_class hY6
          clear nt_20
          replace ct_14_0 := Hct_14_0.out
          clear Hct_14_0
          replace ct_14_1 := Hct_14_1.out
          clear Hct_14_1
          replace ct_14_2 := Hct_14_2.out
          clear Hct_14_2
          replace ct_14_3 := Hct_14_3.out
          clear Hct_14_3
          replace ct_14_4 := Hct_14_4.out
          clear Hct_14_4
          replace ct_18_0 := Hct_18_0.out
          clear Hct_18_0
          replace ct_18_1 := Hct_18_1.out
          clear Hct_18_1
          replace ct_18_2 := Hct_18_2.out
          clear Hct_18_2
          replace ct_18_3 := Hct_18_3.out
          clear Hct_18_3
          replace ct_18_4 := Hct_18_4.out
          clear Hct_18_4
          have HBY6 := Lib.hid (Below.step HBwr0.out hY6)
          replace ct_14_0 := cell_below hY6 ct_14_0
          replace ct_14_1 := cell_below hY6 ct_14_1
          replace ct_14_2 := cell_below hY6 ct_14_2
          replace ct_14_3 := cell_below hY6 ct_14_3
          replace ct_14_4 := cell_below hY6 ct_14_4
          replace ct_18_0 := cell_below hY6 ct_18_0
          replace ct_18_1 := cell_below hY6 ct_18_1
          replace ct_18_2 := cell_below hY6 ct_18_2
          replace ct_18_3 := cell_below hY6 ct_18_3
          replace ct_18_4 := cell_below hY6 ct_18_4
          clear hY6
          replace H := ite_f H
          replace H := app_hid H
          go_wp2_with fail
          go_roundg m0
          case measure => omega
          case rel => exact ⟨k0 + 1, by omega, by go_num, H, HBY6⟩
  | true =>
    have nht_5 : ¬ (a.length = b.length) := by have := bne_iff_ne.1 ht_5; omega
    replace H := ite_t H
    obtain rfl := ret_hid H
    go_wp2_with fail
    go_ret
    exact ⟨rfl, HB.out⟩
end Go.Proofs.Ytpbbechgpgnpbaa.GlEqShadeS

/- The contracts of the laws' helpers on slices of strings: szStringS, toStringS, eqStringS. Condition: the slice reads as a list of strings. -/
namespace Go.Proofs.Ytpbbechgpgnpbaa.HelpStr
set_option linter.unusedVariables false
open Go.RowKit
open Go.Proofs.Ytpbbechgpgnpbaa.Rowed

/-- how many bytes the strings hold together -/
def nbytes (l : List ByteArray) : Nat := (l.map ByteArray.size).sum
theorem bytes_take (l : List ByteArray) (k : Nat) (x : ByteArray) (h : l[k]? = some x) : nbytes (l.take (k + 1)) = nbytes (l.take k) + x.size := by
  have hk := (List.getElem?_eq_some_iff.1 h).1
  rw [List.take_succ_eq_append_getElem hk, (List.getElem?_eq_some_iff.1 h).2]
  unfold nbytes; rw [List.map_append, List.sum_append]; simp
theorem bytes_take_le (l : List ByteArray) (k : Nat) : nbytes (l.take k) ≤ nbytes l := by
  conv => rhs; rw [← List.take_append_drop k l]
  unfold nbytes; rw [List.map_append, List.sum_append]; omega

/-- szStringS: what is left of 'left' behind the strings and their number, or -1 where nothing is left -/
def SzPost (l : List ByteArray) (left : Int) (w : World) (e : Ending) (w' : World) : Prop :=
  ((0 ≤ left - (l.length : Int) - (nbytes l : Int) ∧ e = .returned (.int .i64 (left - (l.length : Int) - (nbytes l : Int)))) ∨ (left - (l.length : Int) - (nbytes l : Int) < 0 ∧ e = .returned (.int .i64 (-1)))) ∧ w = w'

theorem size_le_bytes (l : List ByteArray) : ∀ x ∈ l, x.size ≤ nbytes l := by
  induction l with
  | nil => intro x hx; simp at hx
  | cons y r ih =>
    intro x hx
    have e : nbytes (y :: r) = y.size + nbytes r := by unfold nbytes; simp
    rcases List.mem_cons.1 hx with rfl | h
    · omega
    · have := ih x h; omega
theorem strs_own {w : World} {base n c g : Nat} {e : TypeId} {l : List ByteArray} (h : w.ownsRow base e 1 (.slice (some ⟨g, 0, none⟩) n c) n (l.map Value.string)) : Strs w (some ⟨g, 0, none⟩) n l := Cells.of_own h

theorem infoS : (Try.prog.info? 9).map (fun i => (i.zero, i.size, i.bytes)) = some (some (.string ByteArray.empty), 1, 16) := by kernel_rfl

/-- toStringS: a new row with the same strings -/
def ToPost (l : List ByteArray) (w : World) (e : Ending) (w' : World) : Prop :=
  ∃ g, e = .returned (.slice (some ⟨g, 0, none⟩) l.length l.length) ∧ w'.ownsRow w.heap.size 9 1 (.slice (some ⟨g, 0, none⟩) l.length l.length) l.length (l.map Value.string) ∧ Below w.heap.size w w'

def RelTo (l : List ByteArray) (ys : List Value) (w : World) (k : Nat) (wr : World) : Prop :=
  wr.ownsRow w.heap.size 9 1 (.slice (some ⟨w.heap.size, 0, none⟩) l.length l.length) l.length (fill (l.map Value.string) ys k) ∧ Below w.heap.size w wr

theorem rel_start {l : List ByteArray} {w w1 : World} {ys : List Value} (h : w1.ownsRow w.heap.size 9 1 (.slice (some ⟨w.heap.size, 0, none⟩) l.length l.length) l.length ys) (hg : w.grownBy w1 none) :
    ∃ zs : List Value, Hid (zs.length = l.length) ∧ RelTo l zs w 0 w1 :=
  ⟨ys, Lib.hid (by have := h.1; omega), by rw [fill_zero]; exact h, (Below.refl _ _).grown hg (Nat.le_refl _) (by simp)⟩

theorem rel_round {l : List ByteArray} {ys : List Value} {w wr : World} {k : Nat} {x : ByteArray} (h : RelTo l ys w k wr) (hy : Hid (ys.length = l.length)) (hx : l[k]? = some x) :
    ∃ y, wr.cell? ⟨w.heap.size, k, none⟩ = some y ∧ wr.frozen? ⟨w.heap.size, k, none⟩ = false ∧ RelTo l ys w (k + 1) (wr.setCell ⟨w.heap.size, k, none⟩ (.string x)) := by
  have hy' : ys.length = l.length := hy
  have hk := (List.getElem?_eq_some_iff.1 hx).1
  have hlen : (fill (l.map Value.string) ys k).length = l.length := by rw [fill_len _ _ _ (by simpa using hy')]; exact hy'
  have hc := h.1.cellAt k (by omega)
  rw [List.getElem?_eq_getElem (by omega)] at hc
  refine ⟨_, hc, h.1.frozenAt k, ?_, h.2.setCell (Nat.le_refl _) _⟩
  have := (h.1.stored k (.string x)).1
  rw [fill_set _ _ _ _ (by omega) (by rw [List.getElem?_map, hx]; rfl)] at this
  exact this

theorem rel_end {l : List ByteArray} {ys : List Value} {w wr : World} (h : RelTo l ys w l.length wr) (hy : Hid (ys.length = l.length)) :
    wr.ownsRow w.heap.size 9 1 (.slice (some ⟨w.heap.size, 0, none⟩) l.length l.length) l.length (l.map Value.string) ∧ Below w.heap.size w wr := by
  have hy' : ys.length = l.length := hy
  have e := fill_all (l.map Value.string) ys (by simpa using hy')
  rw [List.length_map] at e
  have h1 := h.1
  rw [e] at h1
  exact ⟨h1, h.2⟩

set_option maxHeartbeats 800000 in
/-- eqStringS, where both slices hold the same strings -/
theorem eq_same (A B : Option Addr) (n c d : Nat) (l : List ByteArray) (w : World) (h1 : Strs w A n l) (h2 : Strs w B n l) (hn : n ≤ 9223372036854775807) :
    Calls Try.prog 28 #[.slice A n c, .slice B n d] w fun e w' => e = .returned (.bool true) ∧ DrawnTo w w' := by
  have H1 := Lib.hid h1
  have H2 := Lib.hid h2
  clear h1 h2
  go_enter Try.func28, Try.ntmps28
  go_wp2
  go_loopw [5] (fun i wr => ∃ k : Nat, k ≤ n ∧ i = .int .i64 k ∧ DrawnTo w wr) (fun i _ => n - (intOf i).toNat)
  case atStart => exact ⟨0, Nat.zero_le _, rfl, 0, rfl⟩
  case round =>
    obtain ⟨k, hk, rfl, m, rfl⟩ := hrel
    by_cases hlt : k < n
    · obtain ⟨ad, x, rfl, hx, hc1⟩ := H1.out.at_ hlt
      obtain ⟨bd, y, rfl, hy, hc2⟩ := H2.out.at_ hlt
      obtain rfl : x = y := by rw [hx] at hy; exact Option.some.inj hy
      clear hx hy
      have hb1 : 0 ≤ (k : Int) := by omega
      have hb2 : (k : Int) < n := by omega
      go_wp2_with fail
      go_quiet (fail)
      go_wp2_with fail
      go_roundw
      case rel => exact ⟨k + 1, by omega, by go_num, _, rfl⟩
      case measure => simp [intOf]; omega
    · go_wp2
      go_ret
      exact ⟨rfl, m, rfl⟩
end Go.Proofs.Ytpbbechgpgnpbaa.HelpStr

/- The contracts of the laws' helpers that mark a slice of strings and look whether the marks are held: markText, markStringS, heldStringS. Conditions: the marks begin at 1 or more; the slice is one that the caller has made. -/
namespace Go.Proofs.Ytpbbechgpgnpbaa.MarkStr
set_option linter.unusedVariables false
open Go.RowKit
open Go.Proofs.Ytpbbechgpgnpbaa.Rowed Go.Proofs.Ytpbbechgpgnpbaa.HelpStr

/-- the mark of number k -/
def mt (k : Nat) : ByteArray := ⟨(109 :: Lib.decDigits k).toArray⟩

theorem ext_of {a b : ByteArray} (h : a.data.toList = b.data.toList) : a = b := by
  obtain ⟨⟨x⟩⟩ := a
  obtain ⟨⟨y⟩⟩ := b
  simp at h
  rw [h]
theorem add_str {P : Program} (a b c : ByteArray) (h : a.data.toList ++ b.data.toList = c.data.toList) (hl : c.data.toList.length ≤ 9223372036854775807) (W : World) :
    (Op.stringOp .add a b).run P W = .ok (.string c) W := by
  have e1 : a.data.toList.length = a.size := by simp
  have e2 : b.data.toList.length = b.size := by simp
  rw [← h, List.length_append, e1, e2] at hl
  rw [run_string_add_sum]
  · congr 2
    apply ext_of
    rw [← h]
    simp
  · exact hl
theorem dec_small (j : Nat) (h : j < 10) : Lib.decDigits j = [UInt8.ofNat (48 + j % 10)] := by
  rw [Lib.decDigits_one h, Nat.mod_eq_of_lt h]
theorem dec_step (j : Nat) (h : ¬ j < 10) : Lib.decDigits j = Lib.decDigits (j / 10) ++ [UInt8.ofNat (48 + j % 10)] := by
  rw [Lib.decDigits, dif_neg h]

/-- what is done when j is what is left: o -/
def Rel (k j : Nat) (o : List UInt8) : Prop := (if j = 0 then [] else Lib.decDigits j) ++ o = Lib.decDigits k
theorem Rel.next {k j : Nat} {o : List UInt8} (h : Rel k j o) (hj : 0 < j) : Rel k (j / 10) (UInt8.ofNat (48 + j % 10) :: o) := by
  unfold Rel at h ⊢
  rw [if_neg (by omega)] at h
  by_cases h10 : j < 10
  · rw [if_pos (by omega)]
    rw [dec_small j h10] at h
    exact h
  · rw [if_neg (by omega)]
    rw [dec_step j h10, List.append_assoc] at h
    exact h
theorem Rel.len {k j : Nat} {o : List UInt8} (h : Rel k j o) (hk : k ≤ 1000000000) : o.length ≤ 20 := by
  have h1 := congrArg List.length h
  rw [List.length_append, Lib.decDigits_length] at h1
  have := Lib.nDigits_le20 k (by omega)
  omega
theorem byte_num (j : Nat) : ((UInt8.ofNat (48 + j % 10)).toNat : Int) = 48 + (j : Int) % 10 := by
  rw [UInt8.toNat_ofNat']; omega

theorem conv_one {P : Program} (W : World) (src dst e : TypeId) (c : UInt8) (hs : P.underlying src = some (.slice e)) (he : P.underlying e = some (.int .u8)) (hd : P.underlying dst = some .string) :
    (convert src dst (.slice (some ⟨W.heap.size, 0, none⟩) 1 1)).run P (W.alloc (.cells #[.int .u8 (c.toNat : Int)] e)) = .ok (.string ⟨#[c]⟩) (W.alloc (.cells #[.int .u8 (c.toNat : Int)] e)) := by
  have := run_convert_bytes_back (P := P) (W.alloc (.cells #[.int .u8 (c.toNat : Int)] e)) src dst e ⟨W.heap.size, 0, none⟩ 1 [c] hs he hd (fun j hj => by
    have : j = 0 := by simpa using hj
    subst this
    rw [show (⟨W.heap.size, 0, none⟩ : Addr).add 0 = ⟨W.heap.size, 0, none⟩ from rfl, World.cell?_alloc_new]
    rfl)
  exact this

set_option maxHeartbeats 1000000 in
theorem markText_any (k : Nat) (w : World) (h1 : 1 ≤ k) (h2 : k ≤ 1000000000) :
    Calls Try.prog 73 #[.int .i64 (k : Int)] w fun e w' => e = .returned (.string (mt k)) ∧ Below w.heap.size w w' := by
  have hk0 : decide (k = 0) = false := by simp; omega
  go_enter Try.func73, Try.ntmps73
  go_wp2
  go_loopw [0, 3] (fun t o wr => ∃ (j : Nat) (q : ByteArray), j ≤ k ∧ t = .int .i64 j ∧ o = .string q ∧ Hid (Rel k j q.data.toList) ∧ Hid (Below w.heap.size w wr)) (fun t _ _ => (intOf t).toNat)
  case atStart => exact ⟨k, ⟨#[]⟩, Nat.le_refl _, rfl, rfl, Lib.hid (by unfold Rel; rw [if_neg (by omega)]; simp), Lib.hid (Below.refl _ _)⟩
  case round =>
    obtain ⟨j, q, hjk, rfl, rfl, HR, HB⟩ := hrel
    by_cases hj : 0 < j
    · obtain ⟨ch, hch, HN⟩ : ∃ ch : UInt8, (ch.toNat : Int) = 48 + (j : Int) % 10 ∧ Hid (Rel k (j / 10) (ch :: q.data.toList)) := ⟨_, byte_num j, HR.out.next hj⟩
      have hadd := add_str (P := Try.prog) ⟨#[ch]⟩ q ⟨(ch :: q.data.toList).toArray⟩ rfl (by have := HN.out.len h2; show (ch :: q.data.toList).length ≤ _; omega)
      have hcv := fun W => conv_one (P := Try.prog) W 61 9 5 ch Try.underlying61 Try.underlying5 Try.underlying9
      rw [hch] at hcv
      have HB3 := Lib.hid (HB.out.alloc HB.out.size (.cells #[.int .u8 (48 + (j : Int) % 10)] 5))
      clear hch
      go_wp2
      go_roundw
      case rel => exact ⟨j / 10, _, by omega, by go_num, rfl, HN, HB3⟩
      case measure => simp [intOf]; omega
    · obtain rfl : j = 0 := by omega
      have hfin : q.data.toList = Lib.decDigits k := HR.out
      have HF := Lib.hid hfin
      have hadd := add_str (P := Try.prog) ⟨#[109]⟩ q (mt k) (by unfold mt; rw [hfin]; rfl) (by have := HR.out.len h2; rw [hfin] at this; show (109 :: Lib.decDigits k).length ≤ _; rw [List.length_cons]; omega)
      clear hfin
      go_wp2
      go_ret
      exact ⟨rfl, HB.out⟩

/-- the marks k, k + 1, .. -/
def marks (k n : Nat) : List Value := (List.range n).map fun i => Value.string (mt (k + i))
theorem marks_len (k n : Nat) : (marks k n).length = n := by simp [marks]
theorem marks_at (k n i : Nat) (h : i < n) : (marks k n)[i]? = some (.string (mt (k + i))) := by
  unfold marks; rw [List.getElem?_map, List.getElem?_range h]; rfl
theorem grown_of {W W' : World} (h : Below W.heap.size W W') : W.grownBy W' none := ⟨h.os, h.tape, h.output, h.size, fun k hk _ => h.block k hk⟩
theorem grown_weak {W W' : World} (h : W.grownBy W' none) (g : Nat) : W.grownBy W' (some g) := ⟨h.os, h.tape, h.output, h.size, fun k hk _ => h.block k hk (by simp)⟩
theorem grown_tr {a b c : World} {r : Option Nat} (h : a.grownBy b r) (k : b.grownBy c r) : a.grownBy c r :=
  ⟨k.os.trans h.os, k.tape.trans h.tape, k.output.trans h.output, Nat.le_trans h.size k.size, fun i hi hr => (k.block i (Nat.lt_of_lt_of_le hi h.size) hr).trans (h.block i hi hr)⟩

def MarkRel (w : World) (base g n c k : Nat) (xs : List Value) (i : Nat) (wr : World) : Prop :=
  wr.ownsRow base 9 1 (.slice (some ⟨g, 0, none⟩) n c) n (fill (marks k n) xs i) ∧ w.grownBy wr (some g)

theorem mark_next {w wr w1 : World} {base g n c k i : Nat} {xs : List Value} (h : MarkRel w base g n c k xs i wr) (hb : Below wr.heap.size wr w1) (hxs : xs.length = n) (hi : i < n) :
    ∃ y, w1.cell? ⟨g, i, none⟩ = some y ∧ w1.frozen? ⟨g, i, none⟩ = false ∧ MarkRel w base g n c k xs (i + 1) (w1.setCell ⟨g, i, none⟩ (.string (mt (k + i)))) := by
  have hk := grown_of hb
  have h1 : w1.ownsRow base 9 1 (.slice (some ⟨g, 0, none⟩) n c) n (fill (marks k n) xs i) := h.1.kept hk (.inr (by simp [Value.ownBlock]))
  have hlen : (fill (marks k n) xs i).length = n := by rw [fill_len _ _ _ (by rw [marks_len, hxs])]; exact hxs
  have hc := h1.cellAt i (by omega)
  rw [List.getElem?_eq_getElem (by omega)] at hc
  refine ⟨_, hc, h1.frozenAt i, ?_, ?_⟩
  · have := (h1.stored i (.string (mt (k + i)))).1
    rw [fill_set _ _ _ _ (by omega) (marks_at k n i hi)] at this
    exact this
  · exact grown_tr h.2 (grown_tr (grown_weak hk g) (h1.stored i (.string (mt (k + i)))).2)

def MarkPost (w : World) (base g n c k : Nat) (e : Ending) (w' : World) : Prop :=
  e = .returned (.int .i64 ((k + n : Nat) : Int)) ∧ w'.ownsRow base 9 1 (.slice (some ⟨g, 0, none⟩) n c) n (marks k n) ∧ w.grownBy w' (some g)

set_option maxHeartbeats 1000000 in
theorem mark_any (w : World) (base g n c k : Nat) (xs : List Value) (h : w.ownsRow base 9 1 (.slice (some ⟨g, 0, none⟩) n c) n xs) (hn : n ≤ 1048576) (hk : 1 ≤ k) (hk2 : k ≤ 1048576) :
    Calls Try.prog 30 #[.slice (some ⟨g, 0, none⟩) n c, .int .i64 (k : Int)] w (MarkPost w base g n c k) := by
  have hxs : Hid (xs.length = n) := Lib.hid (by have := h.1; omega)
  have HR0 : Hid (MarkRel w base g n c k xs 0 w) := Lib.hid ⟨by rw [fill_zero]; exact h, ⟨rfl, rfl, rfl, Nat.le_refl _, fun _ _ _ => rfl⟩⟩
  clear h
  go_enter Try.func30, Try.ntmps30
  go_wp2_with fail
  go_loopw [1, 5] (fun t i wr => ∃ j : Nat, j ≤ n ∧ i = .int .i64 j ∧ t = .int .i64 ((k + j : Nat) : Int) ∧ Hid (MarkRel w base g n c k xs j wr)) (fun _ i _ => n - (intOf i).toNat)
  case atStart => exact ⟨0, Nat.zero_le _, rfl, rfl, HR0⟩
  case round =>
    obtain ⟨j, hj, rfl, rfl, HR⟩ := hrel
    by_cases hlt : j < n
    · go_wp2_with (go_at_call 73; refine (markText_any (k + j) wr (by omega) (by omega)).mono ?_; rintro e w1 ⟨rfl, hb⟩; obtain ⟨y, hc, hf, hR1⟩ := mark_next HR.out hb hxs.out hlt; have HR1 := Lib.hid hR1; clear hb hR1)
      go_roundw
      case rel => exact ⟨j + 1, by omega, by go_num, by go_num, HR1⟩
      case measure => simp [intOf]; omega
    · obtain rfl : j = n := by omega
      have HF := Lib.hid HR.out.1
      go_wp2_with fail
      go_ret
      exact ⟨rfl, by rw [← fill_all (marks k j) xs (by rw [marks_len]; exact hxs.out), marks_len]; exact HF.out, HR.out.2⟩

theorem keep_both {w X w1 : World} {a : Addr} {v : Value} (hb : Below X.heap.size X w1) (h : X.cell? a = some v ∧ Below w.heap.size w X) : w1.cell? a = some v ∧ Below w.heap.size w w1 :=
  ⟨cell_below hb h.1, Below.step h.2 hb⟩
def HeldPost (w : World) (k n : Nat) (e : Ending) (w' : World) : Prop := e = .returned (.int .i64 ((k + n : Nat) : Int)) ∧ Below w.heap.size w w'

set_option maxHeartbeats 1000000 in
theorem held_any (w : World) (base g n c k : Nat) (h : w.ownsRow base 9 1 (.slice (some ⟨g, 0, none⟩) n c) n (marks k n)) (hn : n ≤ 1048576) (hk : 1 ≤ k) (hk2 : k ≤ 1048576) :
    Calls Try.prog 31 #[.slice (some ⟨g, 0, none⟩) n c, .int .i64 (k : Int)] w (HeldPost w k n) := by
  have HH : Hid (∀ j, j < n → w.cell? ⟨g, j, none⟩ = some (.string (mt (k + j)))) := Lib.hid fun j hj => by rw [h.cellAt j (by omega), marks_at k n j hj]
  clear h
  go_enter Try.func31, Try.ntmps31
  go_wp2_with fail
  go_loopw [1, 5] (fun t i wr => ∃ j : Nat, j ≤ n ∧ i = .int .i64 j ∧ t = .int .i64 ((k + j : Nat) : Int) ∧ Hid (Below w.heap.size w wr)) (fun _ i _ => n - (intOf i).toNat)
  case atStart => exact ⟨0, Nat.zero_le _, rfl, rfl, Lib.hid (Below.refl _ _)⟩
  case round =>
    obtain ⟨j, hj, rfl, rfl, HB⟩ := hrel
    by_cases hlt : j < n
    · have hcell : wr.cell? ⟨g, j, none⟩ = some (.string (mt (k + j))) := cell_below HB.out (HH.out j hlt)
      have hbel : Below w.heap.size w wr := HB.out
      go_wp2_with fail
      go_region_held3 (fun w' => w'.cell? ⟨g, j, none⟩ = some (.string (mt (k + j))) ∧ Below w.heap.size w w') (first | exact ⟨hcell, hbel.drew⟩ | exact keep_both hb (by assumption) | go_keep)
        (first | (go_at_call 73; refine (markText_any (k + j) _ (by omega) (by omega)).mono ?_; rintro e w1 ⟨rfl, hb⟩))
      rename_i hX
      have HX := Lib.hid hX.2
      clear hX
      go_wp2_with fail
      go_roundw
      case rel => exact ⟨j + 1, by omega, by go_num, by go_num, HX⟩
      case measure => simp [intOf]; omega
    · obtain rfl : j = n := by omega
      go_wp2_with fail
      go_ret
      exact ⟨rfl, HB.out⟩
end Go.Proofs.Ytpbbechgpgnpbaa.MarkStr

/- markText as a plain function, from 1 to a billion; the contract of the program's. No condition. -/
namespace Go.Proofs.Ytpbbechgpgnpbaa.GlMarkText
set_option linter.unusedVariables false
open Go.RowKit
open Go.Proofs.Ytpbbechgpgnpbaa.Turn
def P (k : Int) : Option ByteArray := if 1 ≤ k ∧ k ≤ 1000000000 then some (Go.Proofs.Ytpbbechgpgnpbaa.MarkStr.mt k.toNat) else none
theorem C (k : Int) (w : World) {r : ByteArray} (H : Hid (P k = some r)) : Calls Try.prog 73 #[.int .i64 k] w (Gives (.string r) w) := by
  have h : P k = some r := H
  unfold P at h
  by_cases hk : 1 ≤ k ∧ k ≤ 1000000000
  · rw [if_pos hk] at h
    obtain rfl := Option.some.inj h
    obtain ⟨n, rfl⟩ := Int.eq_ofNat_of_zero_le (show 0 ≤ k by omega)
    exact Go.Proofs.Ytpbbechgpgnpbaa.MarkStr.markText_any n w (by omega) (by omega)
  · rw [if_neg hk] at h; simp at h
end Go.Proofs.Ytpbbechgpgnpbaa.GlMarkText

/- loop.example/g01062/laws.markShadeS as a plain function, and the contract of the program's: where the plain one has an answer, the program has it. Conditions: slices read as lists. -/
namespace Go.Proofs.Ytpbbechgpgnpbaa.GlMarkShadeS
set_option linter.unusedVariables false
set_option linter.unusedSimpArgs false
open Go.RowKit
open Go.Proofs.Ytpbbechgpgnpbaa.Rowed Go.Proofs.Ytpbbechgpgnpbaa.Turn Go.Proofs.Ytpbbechgpgnpbaa.Aid Go.Proofs.Ytpbbechgpgnpbaa.GoP Go.Proofs.Ytpbbechgpgnpbaa.GoM

def l0  (k0 : Nat) (s : (List Go.Proofs.Ytpbbechgpgnpbaa.PShade.Shade) × Int) (nx0 bk0 : (List Go.Proofs.Ytpbbechgpgnpbaa.PShade.Shade) × Int → Option (Int × (List Go.Proofs.Ytpbbechgpgnpbaa.PShade.Shade))) : Option (Int × (List Go.Proofs.Ytpbbechgpgnpbaa.PShade.Shade)) :=
  unp2 s fun a_0l0 k_1l0 =>
  Option.bind (Go.Proofs.Ytpbbechgpgnpbaa.GlMarkText.P k_1l0) fun (t_9 : ByteArray) =>
  Option.bind (idx a_0l0 (k0 : Int)) fun (yt_10 : Go.Proofs.Ytpbbechgpgnpbaa.PShade.Shade) =>
  unShade yt_10 fun (t_10_name : ByteArray) (t_10_hue : Int) (t_10_width : Int) (t_10_dark : Int) (t_10_light : Int) =>
  letK (a_0l0.set k0 (Go.Proofs.Ytpbbechgpgnpbaa.PShade.Shade.mk t_9 t_10_hue t_10_width t_10_dark t_10_light)) fun (l12_12 : (List Go.Proofs.Ytpbbechgpgnpbaa.PShade.Shade)) =>
  letK (IntKind.i64.wrap (k_1l0 + 1)) fun (t_14 : Int) =>
  Option.bind (idx l12_12 (k0 : Int)) fun (yt_19 : Go.Proofs.Ytpbbechgpgnpbaa.PShade.Shade) =>
  unShade yt_19 fun (t_19_name : ByteArray) (t_19_hue : Int) (t_19_width : Int) (t_19_dark : Int) (t_19_light : Int) =>
  letK (l12_12.set k0 (Go.Proofs.Ytpbbechgpgnpbaa.PShade.Shade.mk t_19_name t_14 t_19_width t_19_dark t_19_light)) fun (l21_21 : (List Go.Proofs.Ytpbbechgpgnpbaa.PShade.Shade)) =>
  letK (IntKind.i64.wrap (t_14 + 1)) fun (t_23 : Int) =>
  Option.bind (idx l21_21 (k0 : Int)) fun (yt_28 : Go.Proofs.Ytpbbechgpgnpbaa.PShade.Shade) =>
  unShade yt_28 fun (t_28_name : ByteArray) (t_28_hue : Int) (t_28_width : Int) (t_28_dark : Int) (t_28_light : Int) =>
  letK (l21_21.set k0 (Go.Proofs.Ytpbbechgpgnpbaa.PShade.Shade.mk t_28_name t_28_hue t_23 t_28_dark t_28_light)) fun (l30_30 : (List Go.Proofs.Ytpbbechgpgnpbaa.PShade.Shade)) =>
  letK (IntKind.i64.wrap (t_23 + 1)) fun (t_32 : Int) =>
  Option.bind (idx l30_30 (k0 : Int)) fun (yt_37 : Go.Proofs.Ytpbbechgpgnpbaa.PShade.Shade) =>
  unShade yt_37 fun (t_37_name : ByteArray) (t_37_hue : Int) (t_37_width : Int) (t_37_dark : Int) (t_37_light : Int) =>
  letK (l30_30.set k0 (Go.Proofs.Ytpbbechgpgnpbaa.PShade.Shade.mk t_37_name t_37_hue t_37_width t_32 t_37_light)) fun (l39_39 : (List Go.Proofs.Ytpbbechgpgnpbaa.PShade.Shade)) =>
  letK (IntKind.i64.wrap (t_32 + 1)) fun (t_41 : Int) =>
  Option.bind (idx l39_39 (k0 : Int)) fun (yt_46 : Go.Proofs.Ytpbbechgpgnpbaa.PShade.Shade) =>
  unShade yt_46 fun (t_46_name : ByteArray) (t_46_hue : Int) (t_46_width : Int) (t_46_dark : Int) (t_46_light : Int) =>
  letK (l39_39.set k0 (Go.Proofs.Ytpbbechgpgnpbaa.PShade.Shade.mk t_46_name t_46_hue t_46_width t_46_dark t_41)) fun (l48_48 : (List Go.Proofs.Ytpbbechgpgnpbaa.PShade.Shade)) =>
  letK (IntKind.i64.wrap (t_41 + 1)) fun (t_50 : Int) =>
  appK nx0 (l48_48, t_50)

def e0  (s : (List Go.Proofs.Ytpbbechgpgnpbaa.PShade.Shade) × Int) : Option (Int × (List Go.Proofs.Ytpbbechgpgnpbaa.PShade.Shade)) :=
  unp2 s fun a_0l0 k_1l0 =>
  some (k_1l0, a_0l0)

def P (a : (List Go.Proofs.Ytpbbechgpgnpbaa.PShade.Shade)) (k_1 : Int) : Option (Int × (List Go.Proofs.Ytpbbechgpgnpbaa.PShade.Shade)) :=
  cntK (l0 ) (a.length) 0 (a, k_1) (e0 )

set_option maxRecDepth 100000 in
set_option maxHeartbeats 2000000 in
theorem C (a : (List Go.Proofs.Ytpbbechgpgnpbaa.PShade.Shade)) (k_1 : Int) (A0 : Option Addr) (c0 : Nat)  (b0 : Nat) (w : World) (M0 : Hid (w.ownsRow b0 26 5 (.slice A0 a.length c0) a.length (Go.Proofs.Ytpbbechgpgnpbaa.PShade.flat a))) (N0 : Hid (a.length ≤ 9223372036854775807))  {r : Int} {l_ : (List Go.Proofs.Ytpbbechgpgnpbaa.PShade.Shade)} (H : Hid (P a k_1 = some (r, l_))) :
    Calls Try.prog 29 #[.slice A0 a.length c0, .int .i64 k_1] w (fun e w' => e = .returned (.int .i64 r) ∧ w'.ownsRow b0 26 5 (.slice A0 a.length c0) a.length (Go.Proofs.Ytpbbechgpgnpbaa.PShade.flat l_) ∧ l_.length = a.length ∧ w.grownBy w' (Value.slice A0 a.length c0).ownBlock) := by
  have HB := Lib.hid (Aid.grown_refl w (Value.slice A0 a.length c0).ownBlock)
  unfold P at H
  have N0o := N0.out
  go_enter Try.func29, Try.ntmps29
  go_wp2_with fail
  have hb_0 : a.length ≤ 9223372036854775807 := own_max M0.out
  go_wp2_with fail
  go_loopg [5, 1] (a.length) (fun m_ v5_ v1_ wr => ∃ (k0 : Nat) (a_0l0 : (List Go.Proofs.Ytpbbechgpgnpbaa.PShade.Shade)) (k_1l0 : Int), k0 + m_ = a.length ∧ v5_ = .int .i64 (k0 : Int) ∧ v1_ = .int .i64 k_1l0 ∧ Hid (cntK (l0 ) m_ k0 (a_0l0, k_1l0) (e0 ) = some (r, l_)) ∧ Hid (w.grownBy wr (Value.slice A0 a.length c0).ownBlock) ∧ Hid (wr.ownsRow b0 26 5 (.slice A0 a.length c0) a.length (Go.Proofs.Ytpbbechgpgnpbaa.PShade.flat a_0l0)) ∧ Hid (a_0l0.length = a.length))
  case atStart => exact ⟨0, _, _, by omega, rfl, rfl, H, HB, M0, Lib.hid (rfl)⟩
  case round =>
    obtain ⟨k0, a_0l0, k_1l0, hkm0, rfl, rfl, H, HBwr0, Oa_0l0, hna_0l0⟩ := hrel
    rename World => wr0
    cases gk with
    | zero =>
      obtain rfl : k0 = a.length := by omega
      have hc0 : decide (((a.length : Nat) : Int) < ((a.length : Nat) : Int)) = false := by simp
      replace H := cnt_zero H
      unfold e0 at H
      replace H := unp2_hid H
      cases ret_hid H
      go_wp2_with fail
      go_ret
      exact ⟨rfl, Oa_0l0.out, hna_0l0.out, HBwr0.out⟩
    | succ m0 =>
      have hlt0 : k0 < a.length := by omega
      have hc0 : decide ((k0 : Int) < ((a.length : Nat) : Int)) = true := by simp; omega
      replace H := cnt_succ H
      unfold l0 at H
      replace H := unp2_hid H
      replace H := bind_hid H
      obtain ⟨t_9, qt_9, H⟩ := H
      go_wp2_with fail
      go_at_call 73
      refine (Go.Proofs.Ytpbbechgpgnpbaa.GlMarkText.C (k_1l0)  _    qt_9).mono ?_
      rintro e_t_9 wt_9 ⟨rfl, bt_9⟩
      have HBwt_9 := Lib.hid (grown_below HBwr0.out bt_9)
      replace Oa_0l0 := Lib.hid (own_below Oa_0l0.out bt_9)
      clear bt_9
      replace H := idx_hid H
      obtain ⟨nt_10, yt_10, et_10, lt_10, gt_10, H⟩ := H
      obtain rfl : k0 = nt_10 := by omega
      clear et_10
      obtain ⟨t_10_name, t_10_hue, t_10_width, t_10_dark, t_10_light⟩ := yt_10
      replace H := unShade_hid H
      have hqt_10 := hna_0l0.out
      obtain ⟨qt_10, Qt_10⟩ := own_some Oa_0l0.out (by omega)
      subst Qt_10
      obtain ⟨ab_t_10, ao_t_10, zt_10, At_10, z_t_10, ct_10_0, ct_10_1, ct_10_2, ct_10_3, ct_10_4⟩ := Go.Proofs.Ytpbbechgpgnpbaa.OShade.at_ (own_cells Oa_0l0.out) (k := k0) (by omega)
      obtain rfl := Option.some.inj (gt_10.out.symm.trans z_t_10)
      simp only [Option.some.injEq, Addr.mk.injEq] at At_10
      obtain ⟨rfl, rfl, _⟩ := At_10
      clear z_t_10
      simp only [Nat.zero_add] at ct_10_0 ct_10_1 ct_10_2 ct_10_3 ct_10_4
      have b0t_10 : (0 : Int) ≤ (k0 : Int) := by omega
      have b1t_10 : (k0 : Int) < ((a.length : Nat) : Int) := by omega
      have b2t_10 : ((k0 : Int)).toNat = k0 := by omega
      clear hqt_10
      replace H := let_hid H
      obtain ⟨l12_12, hl12_12, H⟩ := H
      obtain ⟨wl12_12, hwl12_12⟩ : ∃ x, (wt_9).setCell ⟨qt_10, k0 * 5, none⟩ (.string t_9) = x := ⟨_, rfl⟩
      have z0l12_12 := Oa_0l0.out.frozenAt (k0 * 5)
      have Sl12_12 := Lib.hid (own_stores [(k0 * 5, .string t_9)] Oa_0l0.out)
      have nl12_12 : Hid (l12_12.length = a.length) := Lib.hid (by rw [← hl12_12, List.length_set]; exact hna_0l0.out)
      have Pl12_12 : Hid (wl12_12.ownsRow b0 26 5 (.slice (some ⟨qt_10, 0, none⟩) a.length c0) a.length (Go.Proofs.Ytpbbechgpgnpbaa.PShade.flat l12_12)) := Lib.hid (by have es_ := set_self gt_10.out; have e0_ := flat_set Go.Proofs.Ytpbbechgpgnpbaa.PShade.Shade.cells 5 (fun _ => rfl) a_0l0 (k0) 0 (Go.Proofs.Ytpbbechgpgnpbaa.PShade.Shade.mk t_10_name t_10_hue t_10_width t_10_dark t_10_light) (Go.Proofs.Ytpbbechgpgnpbaa.PShade.Shade.mk t_9 t_10_hue t_10_width t_10_dark t_10_light) (.string t_9) lt_10 (by decide) rfl; rw [es_] at e0_; have e_ : ([(k0 * 5, .string t_9)] : List (Nat × Value)).foldl (fun xs p => xs.set p.1 p.2) (Go.Proofs.Ytpbbechgpgnpbaa.PShade.flat a_0l0) = (Go.Proofs.Ytpbbechgpgnpbaa.PShade.flat l12_12) := (by rw [← hl12_12]; show _ = List.flatMap Go.Proofs.Ytpbbechgpgnpbaa.PShade.Shade.cells _; rw [← e0_]; first | done | rfl); rw [← hwl12_12, ← e_]; exact Sl12_12.out.1)
      have Gl12_12 : Hid (wt_9.grownBy wl12_12 (Value.slice (some ⟨qt_10, 0, none⟩) a.length c0).ownBlock) := Lib.hid (by rw [← hwl12_12]; exact Sl12_12.out.2)
      have HBwl12_12 := Lib.hid (Aid.grown_tr HBwt_9.out Gl12_12.out)
      have hhl12_12 := Lib.hid hl12_12
      clear hl12_12 Sl12_12
      clear Oa_0l0 Gl12_12
      replace H := let_hid H
      obtain ⟨t_14, ht_14, H⟩ := H
      replace H := idx_hid H
      obtain ⟨nt_19, yt_19, et_19, lt_19, gt_19, H⟩ := H
      obtain rfl : k0 = nt_19 := by omega
      clear et_19
      obtain ⟨t_19_name, t_19_hue, t_19_width, t_19_dark, t_19_light⟩ := yt_19
      replace H := unShade_hid H
      have hqt_19 := nl12_12.out
      obtain ⟨ab_t_19, ao_t_19, zt_19, At_19, z_t_19, ct_19_0, ct_19_1, ct_19_2, ct_19_3, ct_19_4⟩ := Go.Proofs.Ytpbbechgpgnpbaa.OShade.at_ (own_cells Pl12_12.out) (k := k0) (by omega)
      obtain rfl := Option.some.inj (gt_19.out.symm.trans z_t_19)
      simp only [Option.some.injEq, Addr.mk.injEq] at At_19
      obtain ⟨rfl, rfl, _⟩ := At_19
      clear z_t_19
      simp only [Nat.zero_add] at ct_19_0 ct_19_1 ct_19_2 ct_19_3 ct_19_4
      have b0t_19 : (0 : Int) ≤ (k0 : Int) := by omega
      have b1t_19 : (k0 : Int) < ((a.length : Nat) : Int) := by omega
      have b2t_19 : ((k0 : Int)).toNat = k0 := by omega
      clear hqt_19
      replace H := let_hid H
      obtain ⟨l21_21, hl21_21, H⟩ := H
      obtain ⟨wl21_21, hwl21_21⟩ : ∃ x, (wl12_12).setCell ⟨qt_10, k0 * 5 + 1, none⟩ (.int .i64 t_14) = x := ⟨_, rfl⟩
      have z0l21_21 := Pl12_12.out.frozenAt (k0 * 5 + 1)
      have Sl21_21 := Lib.hid (own_stores [(k0 * 5 + 1, .int .i64 t_14)] Pl12_12.out)
      have nl21_21 : Hid (l21_21.length = a.length) := Lib.hid (by rw [← hl21_21, List.length_set]; exact nl12_12.out)
      have Pl21_21 : Hid (wl21_21.ownsRow b0 26 5 (.slice (some ⟨qt_10, 0, none⟩) a.length c0) a.length (Go.Proofs.Ytpbbechgpgnpbaa.PShade.flat l21_21)) := Lib.hid (by have es_ := set_self gt_19.out; have e0_ := flat_set Go.Proofs.Ytpbbechgpgnpbaa.PShade.Shade.cells 5 (fun _ => rfl) l12_12 (k0) 1 (Go.Proofs.Ytpbbechgpgnpbaa.PShade.Shade.mk t_19_name t_19_hue t_19_width t_19_dark t_19_light) (Go.Proofs.Ytpbbechgpgnpbaa.PShade.Shade.mk t_19_name t_14 t_19_width t_19_dark t_19_light) (.int .i64 t_14) lt_19 (by decide) rfl; rw [es_] at e0_; have e_ : ([(k0 * 5 + 1, .int .i64 t_14)] : List (Nat × Value)).foldl (fun xs p => xs.set p.1 p.2) (Go.Proofs.Ytpbbechgpgnpbaa.PShade.flat l12_12) = (Go.Proofs.Ytpbbechgpgnpbaa.PShade.flat l21_21) := (by rw [← hl21_21]; show _ = List.flatMap Go.Proofs.Ytpbbechgpgnpbaa.PShade.Shade.cells _; rw [← e0_]; first | done | rfl); rw [← hwl21_21, ← e_]; exact Sl21_21.out.1)
      have Gl21_21 : Hid (wl12_12.grownBy wl21_21 (Value.slice (some ⟨qt_10, 0, none⟩) a.length c0).ownBlock) := Lib.hid (by rw [← hwl21_21]; exact Sl21_21.out.2)
      have HBwl21_21 := Lib.hid (Aid.grown_tr HBwl12_12.out Gl21_21.out)
      have hhl21_21 := Lib.hid hl21_21
      clear hl21_21 Sl21_21
      clear Pl12_12 Gl21_21
      replace H := let_hid H
      obtain ⟨t_23, ht_23, H⟩ := H
      replace H := idx_hid H
      obtain ⟨nt_28, yt_28, et_28, lt_28, gt_28, H⟩ := H
      obtain rfl : k0 = nt_28 := by omega
      clear et_28
      obtain ⟨t_28_name, t_28_hue, t_28_width, t_28_dark, t_28_light⟩ := yt_28
      replace H := unShade_hid H
      have hqt_28 := nl21_21.out
      obtain ⟨ab_t_28, ao_t_28, zt_28, At_28, z_t_28, ct_28_0, ct_28_1, ct_28_2, ct_28_3, ct_28_4⟩ := Go.Proofs.Ytpbbechgpgnpbaa.OShade.at_ (own_cells Pl21_21.out) (k := k0) (by omega)
      obtain rfl := Option.some.inj (gt_28.out.symm.trans z_t_28)
      simp only [Option.some.injEq, Addr.mk.injEq] at At_28
      obtain ⟨rfl, rfl, _⟩ := At_28
      clear z_t_28
      simp only [Nat.zero_add] at ct_28_0 ct_28_1 ct_28_2 ct_28_3 ct_28_4
      have b0t_28 : (0 : Int) ≤ (k0 : Int) := by omega
      have b1t_28 : (k0 : Int) < ((a.length : Nat) : Int) := by omega
      have b2t_28 : ((k0 : Int)).toNat = k0 := by omega
      clear hqt_28
      replace H := let_hid H
      obtain ⟨l30_30, hl30_30, H⟩ := H
      obtain ⟨wl30_30, hwl30_30⟩ : ∃ x, (wl21_21).setCell ⟨qt_10, k0 * 5 + 2, none⟩ (.int .i64 t_23) = x := ⟨_, rfl⟩
      have z0l30_30 := Pl21_21.out.frozenAt (k0 * 5 + 2)
      have Sl30_30 := Lib.hid (own_stores [(k0 * 5 + 2, .int .i64 t_23)] Pl21_21.out)
      have nl30_30 : Hid (l30_30.length = a.length) := Lib.hid (by rw [← hl30_30, List.length_set]; exact nl21_21.out)
      have Pl30_30 : Hid (wl30_30.ownsRow b0 26 5 (.slice (some ⟨qt_10, 0, none⟩) a.length c0) a.length (Go.Proofs.Ytpbbechgpgnpbaa.PShade.flat l30_30)) := Lib.hid (by have es_ := set_self gt_28.out; have e0_ := flat_set Go.Proofs.Ytpbbechgpgnpbaa.PShade.Shade.cells 5 (fun _ => rfl) l21_21 (k0) 2 (Go.Proofs.Ytpbbechgpgnpbaa.PShade.Shade.mk t_28_name t_28_hue t_28_width t_28_dark t_28_light) (Go.Proofs.Ytpbbechgpgnpbaa.PShade.Shade.mk t_28_name t_28_hue t_23 t_28_dark t_28_light) (.int .i64 t_23) lt_28 (by decide) rfl; rw [es_] at e0_; have e_ : ([(k0 * 5 + 2, .int .i64 t_23)] : List (Nat × Value)).foldl (fun xs p => xs.set p.1 p.2) (Go.Proofs.Ytpbbechgpgnpbaa.PShade.flat l21_21) = (Go.Proofs.Ytpbbechgpgnpbaa.PShade.flat l30_30) := (by rw [← hl30_30]; show _ = List.flatMap Go.Proofs.Ytpbbechgpgnpbaa.PShade.Shade.cells _; rw [← e0_]; first | done | rfl); rw [← hwl30_30, ← e_]; exact Sl30_30.out.1)
      have Gl30_30 : Hid (wl21_21.grownBy wl30_30 (Value.slice (some ⟨qt_10, 0, none⟩) a.length c0).ownBlock) := Lib.hid (by rw [← hwl30_30]; exact Sl30_30.out.2)
      have HBwl30_30 := Lib.hid (Aid.grown_tr HBwl21_21.out Gl30_30.out)
      have hhl30_30 := Lib.hid hl30_30
      clear hl30_30 Sl30_30
      clear Pl21_21 Gl30_30
      replace H := let_hid H
      obtain ⟨t_32, ht_32, H⟩ := H
      replace H := idx_hid H
      obtain ⟨nt_37, yt_37, et_37, lt_37, gt_37, H⟩ := H
      obtain rfl : k0 = nt_37 := by omega
      clear et_37
      obtain ⟨t_37_name, t_37_hue, t_37_width, t_37_dark, t_37_light⟩ := yt_37
      replace H := unShade_hid H
      have hqt_37 := nl30_30.out
      obtain ⟨ab_t_37, ao_t_37, zt_37, At_37, z_t_37, ct_37_0, ct_37_1, ct_37_2, ct_37_3, ct_37_4⟩ := Go.Proofs.Ytpbbechgpgnpbaa.OShade.at_ (own_cells Pl30_30.out) (k := k0) (by omega)
      obtain rfl := Option.some.inj (gt_37.out.symm.trans z_t_37)
      simp only [Option.some.injEq, Addr.mk.injEq] at At_37
      obtain ⟨rfl, rfl, _⟩ := At_37
      clear z_t_37
      simp only [Nat.zero_add] at ct_37_0 ct_37_1 ct_37_2 ct_37_3 ct_37_4
      have b0t_37 : (0 : Int) ≤ (k0 : Int) := by omega
      have b1t_37 : (k0 : Int) < ((a.length : Nat) : Int) := by omega
      have b2t_37 : ((k0 : Int)).toNat = k0 := by omega
      clear hqt_37
      replace H := let_hid H
      obtain ⟨l39_39, hl39_39, H⟩ := H
      obtain ⟨wl39_39, hwl39_39⟩ : ∃ x, (wl30_30).setCell ⟨qt_10, k0 * 5 + 3, none⟩ (.int .i64 t_32) = x := ⟨_, rfl⟩
      have z0l39_39 := Pl30_30.out.frozenAt (k0 * 5 + 3)
      have Sl39_39 := Lib.hid (own_stores [(k0 * 5 + 3, .int .i64 t_32)] Pl30_30.out)
      have nl39_39 : Hid (l39_39.length = a.length) := Lib.hid (by rw [← hl39_39, List.length_set]; exact nl30_30.out)
      have Pl39_39 : Hid (wl39_39.ownsRow b0 26 5 (.slice (some ⟨qt_10, 0, none⟩) a.length c0) a.length (Go.Proofs.Ytpbbechgpgnpbaa.PShade.flat l39_39)) := Lib.hid (by have es_ := set_self gt_37.out; have e0_ := flat_set Go.Proofs.Ytpbbechgpgnpbaa.PShade.Shade.cells 5 (fun _ => rfl) l30_30 (k0) 3 (Go.Proofs.Ytpbbechgpgnpbaa.PShade.Shade.mk t_37_name t_37_hue t_37_width t_37_dark t_37_light) (Go.Proofs.Ytpbbechgpgnpbaa.PShade.Shade.mk t_37_name t_37_hue t_37_width t_32 t_37_light) (.int .i64 t_32) lt_37 (by decide) rfl; rw [es_] at e0_; have e_ : ([(k0 * 5 + 3, .int .i64 t_32)] : List (Nat × Value)).foldl (fun xs p => xs.set p.1 p.2) (Go.Proofs.Ytpbbechgpgnpbaa.PShade.flat l30_30) = (Go.Proofs.Ytpbbechgpgnpbaa.PShade.flat l39_39) := (by rw [← hl39_39]; show _ = List.flatMap Go.Proofs.Ytpbbechgpgnpbaa.PShade.Shade.cells _; rw [← e0_]; first | done | rfl); rw [← hwl39_39, ← e_]; exact Sl39_39.out.1)
      have Gl39_39 : Hid (wl30_30.grownBy wl39_39 (Value.slice (some ⟨qt_10, 0, none⟩) a.length c0).ownBlock) := Lib.hid (by rw [← hwl39_39]; exact Sl39_39.out.2)
      have HBwl39_39 := Lib.hid (Aid.grown_tr HBwl30_30.out Gl39_39.out)
      have hhl39_39 := Lib.hid hl39_39
      clear hl39_39 Sl39_39
      clear Pl30_30 Gl39_39
      replace H := let_hid H
      obtain ⟨t_41, ht_41, H⟩ := H
      replace H := idx_hid H
      obtain ⟨nt_46, yt_46, et_46, lt_46, gt_46, H⟩ := H
      obtain rfl : k0 = nt_46 := by omega
      clear et_46
      obtain ⟨t_46_name, t_46_hue, t_46_width, t_46_dark, t_46_light⟩ := yt_46
      replace H := unShade_hid H
      have hqt_46 := nl39_39.out
      obtain ⟨ab_t_46, ao_t_46, zt_46, At_46, z_t_46, ct_46_0, ct_46_1, ct_46_2, ct_46_3, ct_46_4⟩ := Go.Proofs.Ytpbbechgpgnpbaa.OShade.at_ (own_cells Pl39_39.out) (k := k0) (by omega)
      obtain rfl := Option.some.inj (gt_46.out.symm.trans z_t_46)
      simp only [Option.some.injEq, Addr.mk.injEq] at At_46
      obtain ⟨rfl, rfl, _⟩ := At_46
      clear z_t_46
      simp only [Nat.zero_add] at ct_46_0 ct_46_1 ct_46_2 ct_46_3 ct_46_4
      have b0t_46 : (0 : Int) ≤ (k0 : Int) := by omega
      have b1t_46 : (k0 : Int) < ((a.length : Nat) : Int) := by omega
      have b2t_46 : ((k0 : Int)).toNat = k0 := by omega
      clear hqt_46
      replace H := let_hid H
      obtain ⟨l48_48, hl48_48, H⟩ := H
      obtain ⟨wl48_48, hwl48_48⟩ : ∃ x, (wl39_39).setCell ⟨qt_10, k0 * 5 + 4, none⟩ (.int .i64 t_41) = x := ⟨_, rfl⟩
      have z0l48_48 := Pl39_39.out.frozenAt (k0 * 5 + 4)
      have Sl48_48 := Lib.hid (own_stores [(k0 * 5 + 4, .int .i64 t_41)] Pl39_39.out)
      have nl48_48 : Hid (l48_48.length = a.length) := Lib.hid (by rw [← hl48_48, List.length_set]; exact nl39_39.out)
      have Pl48_48 : Hid (wl48_48.ownsRow b0 26 5 (.slice (some ⟨qt_10, 0, none⟩) a.length c0) a.length (Go.Proofs.Ytpbbechgpgnpbaa.PShade.flat l48_48)) := Lib.hid (by have es_ := set_self gt_46.out; have e0_ := flat_set Go.Proofs.Ytpbbechgpgnpbaa.PShade.Shade.cells 5 (fun _ => rfl) l39_39 (k0) 4 (Go.Proofs.Ytpbbechgpgnpbaa.PShade.Shade.mk t_46_name t_46_hue t_46_width t_46_dark t_46_light) (Go.Proofs.Ytpbbechgpgnpbaa.PShade.Shade.mk t_46_name t_46_hue t_46_width t_46_dark t_41) (.int .i64 t_41) lt_46 (by decide) rfl; rw [es_] at e0_; have e_ : ([(k0 * 5 + 4, .int .i64 t_41)] : List (Nat × Value)).foldl (fun xs p => xs.set p.1 p.2) (Go.Proofs.Ytpbbechgpgnpbaa.PShade.flat l39_39) = (Go.Proofs.Ytpbbechgpgnpbaa.PShade.flat l48_48) := (by rw [← hl48_48]; show _ = List.flatMap Go.Proofs.Ytpbbechgpgnpbaa.PShade.Shade.cells _; rw [← e0_]; first | done | rfl); rw [← hwl48_48, ← e_]; exact Sl48_48.out.1)
      have Gl48_48 : Hid (wl39_39.grownBy wl48_48 (Value.slice (some ⟨qt_10, 0, none⟩) a.length c0).ownBlock) := Lib.hid (by rw [← hwl48_48]; exact Sl48_48.out.2)
      have HBwl48_48 := Lib.hid (Aid.grown_tr HBwl39_39.out Gl48_48.out)
      have hhl48_48 := Lib.hid hl48_48
      clear hl48_48 Sl48_48
      clear Pl39_39 Gl48_48
      replace H := let_hid H
      obtain ⟨t_50, ht_50, H⟩ := H
      replace H := app_hid H
      go_wp2_with fail
      clear z0l12_12 ct_10_0 ct_10_1 ct_10_2 ct_10_3 ct_10_4 z0l21_21 ct_19_0 ct_19_1 ct_19_2 ct_19_3 ct_19_4 z0l30_30 ct_28_0 ct_28_1 ct_28_2 ct_28_3 ct_28_4 z0l39_39 ct_37_0 ct_37_1 ct_37_2 ct_37_3 ct_37_4 z0l48_48 ct_46_0 ct_46_1 ct_46_2 ct_46_3 ct_46_4
      go_roundg m0
      case measure => omega
      case rel => exact ⟨k0 + 1, _, _, by omega, by go_num, rfl, H, HBwl48_48, Pl48_48, Lib.hid (nl48_48.out)⟩
end Go.Proofs.Ytpbbechgpgnpbaa.GlMarkShadeS

/- loop.example/g01062/laws.markStringS as a plain function, and the contract of the program's: where the plain one has an answer, the program has it. Conditions: slices read as lists. -/
namespace Go.Proofs.Ytpbbechgpgnpbaa.GlMarkStringS
set_option linter.unusedVariables false
set_option linter.unusedSimpArgs false
open Go.RowKit
open Go.Proofs.Ytpbbechgpgnpbaa.Rowed Go.Proofs.Ytpbbechgpgnpbaa.Turn Go.Proofs.Ytpbbechgpgnpbaa.Aid Go.Proofs.Ytpbbechgpgnpbaa.GoP Go.Proofs.Ytpbbechgpgnpbaa.GoM

def l0  (k0 : Nat) (s : (List ByteArray) × Int) (nx0 bk0 : (List ByteArray) × Int → Option (Int × (List ByteArray))) : Option (Int × (List ByteArray)) :=
  unp2 s fun a_0l0 k_1l0 =>
  Option.bind (Go.Proofs.Ytpbbechgpgnpbaa.GlMarkText.P k_1l0) fun (t_9 : ByteArray) =>
  Option.bind (idx a_0l0 (k0 : Int)) fun (yt_10 : ByteArray) =>
  letK (a_0l0.set k0 t_9) fun (l11_11 : (List ByteArray)) =>
  letK (IntKind.i64.wrap (k_1l0 + 1)) fun (t_13 : Int) =>
  appK nx0 (l11_11, t_13)

def e0  (s : (List ByteArray) × Int) : Option (Int × (List ByteArray)) :=
  unp2 s fun a_0l0 k_1l0 =>
  some (k_1l0, a_0l0)

def P (a : (List ByteArray)) (k_1 : Int) : Option (Int × (List ByteArray)) :=
  cntK (l0 ) (a.length) 0 (a, k_1) (e0 )

set_option maxRecDepth 100000 in
set_option maxHeartbeats 2000000 in
theorem C (a : (List ByteArray)) (k_1 : Int) (A0 : Option Addr) (c0 : Nat)  (b0 : Nat) (w : World) (M0 : Hid (w.ownsRow b0 9 1 (.slice A0 a.length c0) a.length (a.map Value.string))) (N0 : Hid (a.length ≤ 9223372036854775807))  {r : Int} {l_ : (List ByteArray)} (H : Hid (P a k_1 = some (r, l_))) :
    Calls Try.prog 30 #[.slice A0 a.length c0, .int .i64 k_1] w (fun e w' => e = .returned (.int .i64 r) ∧ w'.ownsRow b0 9 1 (.slice A0 a.length c0) a.length (l_.map Value.string) ∧ l_.length = a.length ∧ w.grownBy w' (Value.slice A0 a.length c0).ownBlock) := by
  have HB := Lib.hid (Aid.grown_refl w (Value.slice A0 a.length c0).ownBlock)
  unfold P at H
  have N0o := N0.out
  go_enter Try.func30, Try.ntmps30
  go_wp2_with fail
  have hb_0 : a.length ≤ 9223372036854775807 := own_max M0.out
  go_wp2_with fail
  go_loopg [5, 1] (a.length) (fun m_ v5_ v1_ wr => ∃ (k0 : Nat) (a_0l0 : (List ByteArray)) (k_1l0 : Int), k0 + m_ = a.length ∧ v5_ = .int .i64 (k0 : Int) ∧ v1_ = .int .i64 k_1l0 ∧ Hid (cntK (l0 ) m_ k0 (a_0l0, k_1l0) (e0 ) = some (r, l_)) ∧ Hid (w.grownBy wr (Value.slice A0 a.length c0).ownBlock) ∧ Hid (wr.ownsRow b0 9 1 (.slice A0 a.length c0) a.length (a_0l0.map Value.string)) ∧ Hid (a_0l0.length = a.length))
  case atStart => exact ⟨0, _, _, by omega, rfl, rfl, H, HB, M0, Lib.hid (rfl)⟩
  case round =>
    obtain ⟨k0, a_0l0, k_1l0, hkm0, rfl, rfl, H, HBwr0, Oa_0l0, hna_0l0⟩ := hrel
    rename World => wr0
    cases gk with
    | zero =>
      obtain rfl : k0 = a.length := by omega
      have hc0 : decide (((a.length : Nat) : Int) < ((a.length : Nat) : Int)) = false := by simp
      replace H := cnt_zero H
      unfold e0 at H
      replace H := unp2_hid H
      cases ret_hid H
      go_wp2_with fail
      go_ret
      exact ⟨rfl, Oa_0l0.out, hna_0l0.out, HBwr0.out⟩
    | succ m0 =>
      have hlt0 : k0 < a.length := by omega
      have hc0 : decide ((k0 : Int) < ((a.length : Nat) : Int)) = true := by simp; omega
      replace H := cnt_succ H
      unfold l0 at H
      replace H := unp2_hid H
      replace H := bind_hid H
      obtain ⟨t_9, qt_9, H⟩ := H
      go_wp2_with fail
      go_at_call 73
      refine (Go.Proofs.Ytpbbechgpgnpbaa.GlMarkText.C (k_1l0)  _    qt_9).mono ?_
      rintro e_t_9 wt_9 ⟨rfl, bt_9⟩
      have HBwt_9 := Lib.hid (grown_below HBwr0.out bt_9)
      replace Oa_0l0 := Lib.hid (own_below Oa_0l0.out bt_9)
      clear bt_9
      replace H := idx_hid H
      obtain ⟨nt_10, yt_10, et_10, lt_10, gt_10, H⟩ := H
      obtain rfl : k0 = nt_10 := by omega
      clear et_10
      have hqt_10 := hna_0l0.out
      obtain ⟨qt_10, Qt_10⟩ := own_some Oa_0l0.out (by omega)
      subst Qt_10
      obtain ⟨ab_t_10, ao_t_10, zt_10, At_10, z_t_10, ct_10_0⟩ := strs_at (own_cells Oa_0l0.out) (k := k0) (by omega)
      obtain rfl := Option.some.inj (gt_10.out.symm.trans z_t_10)
      simp only [Option.some.injEq, Addr.mk.injEq] at At_10
      obtain ⟨rfl, rfl, _⟩ := At_10
      clear z_t_10
      simp only [Nat.zero_add] at ct_10_0
      have b0t_10 : (0 : Int) ≤ (k0 : Int) := by omega
      have b1t_10 : (k0 : Int) < ((a.length : Nat) : Int) := by omega
      have b2t_10 : ((k0 : Int)).toNat = k0 := by omega
      clear hqt_10
      replace H := let_hid H
      obtain ⟨l11_11, hl11_11, H⟩ := H
      obtain ⟨wl11_11, hwl11_11⟩ : ∃ x, (wt_9).setCell ⟨qt_10, k0, none⟩ (.string t_9) = x := ⟨_, rfl⟩
      have z0l11_11 := Oa_0l0.out.frozenAt (k0)
      have Sl11_11 := Lib.hid (own_stores [(k0, .string t_9)] Oa_0l0.out)
      have nl11_11 : Hid (l11_11.length = a.length) := Lib.hid (by rw [← hl11_11, List.length_set]; exact hna_0l0.out)
      have Pl11_11 : Hid (wl11_11.ownsRow b0 9 1 (.slice (some ⟨qt_10, 0, none⟩) a.length c0) a.length (l11_11.map Value.string)) := Lib.hid (by have e_ : ([(k0, .string t_9)] : List (Nat × Value)).foldl (fun xs p => xs.set p.1 p.2) (a_0l0.map Value.string) = (l11_11.map Value.string) := (by rw [← hl11_11]; first | done | simp [List.map_set]); rw [← hwl11_11, ← e_]; exact Sl11_11.out.1)
      have Gl11_11 : Hid (wt_9.grownBy wl11_11 (Value.slice (some ⟨qt_10, 0, none⟩) a.length c0).ownBlock) := Lib.hid (by rw [← hwl11_11]; exact Sl11_11.out.2)
      have HBwl11_11 := Lib.hid (Aid.grown_tr HBwt_9.out Gl11_11.out)
      have hhl11_11 := Lib.hid hl11_11
      clear hl11_11 Sl11_11
      clear Oa_0l0 Gl11_11
      replace H := let_hid H
      obtain ⟨t_13, ht_13, H⟩ := H
      replace H := app_hid H
      go_wp2_with fail
      clear z0l11_11 ct_10_0
      go_roundg m0
      case measure => omega
      case rel => exact ⟨k0 + 1, _, _, by omega, by go_num, rfl, H, HBwl11_11, Pl11_11, Lib.hid (nl11_11.out)⟩
end Go.Proofs.Ytpbbechgpgnpbaa.GlMarkStringS

/- loop.example/g01062/laws.heldStringS as a plain function, and the contract of the program's: where the plain one has an answer, the program has it. Conditions: slices read as lists. -/
namespace Go.Proofs.Ytpbbechgpgnpbaa.GlHeldStringS
set_option linter.unusedVariables false
set_option linter.unusedSimpArgs false
open Go.RowKit
open Go.Proofs.Ytpbbechgpgnpbaa.Rowed Go.Proofs.Ytpbbechgpgnpbaa.Turn Go.Proofs.Ytpbbechgpgnpbaa.Aid Go.Proofs.Ytpbbechgpgnpbaa.GoP Go.Proofs.Ytpbbechgpgnpbaa.GoM

def l0 (a : (List ByteArray)) (k0 : Nat) (s : Int) (nx0 bk0 : Int → Option (Int)) : Option (Int) :=
  letK s fun k_1l0 =>
  Option.bind (idx a (k0 : Int)) fun (yt_8 : ByteArray) =>
  Option.bind (Go.Proofs.Ytpbbechgpgnpbaa.GlMarkText.P k_1l0) fun (t_11 : ByteArray) =>
  letK (!(yt_8.toList == t_11.toList)) fun (t_12 : Bool) =>
  iteK t_12
  (some (-1))
  (letK (IntKind.i64.wrap (k_1l0 + 1)) fun (t_15 : Int) =>
  appK nx0 (t_15))

def e0  (s : Int) : Option (Int) :=
  letK s fun k_1l0 =>
  some k_1l0

def P (a : (List ByteArray)) (k_1 : Int) : Option (Int) :=
  cntK (l0 a) (a.length) 0 (k_1) (e0 )

set_option maxRecDepth 100000 in
set_option maxHeartbeats 2000000 in
theorem C (a : (List ByteArray)) (k_1 : Int) (A0 : Option Addr) (c0 : Nat)  (w : World) (M0 : Hid (Cells w 1 A0 a.length (a.map Value.string))) (N0 : Hid (a.length ≤ 9223372036854775807))  {r : Int} (H : Hid (P a k_1 = some r)) :
    Calls Try.prog 31 #[.slice A0 a.length c0, .int .i64 k_1] w (Gives (.int .i64 r) w) := by
  have HB := Lib.hid (Below.refl w.heap.size w)
  unfold P at H
  have N0o := N0.out
  go_enter Try.func31, Try.ntmps31
  go_wp2_with fail
  go_loopg [5, 1] (a.length) (fun m_ v5_ v1_ wr => ∃ (k0 : Nat) (k_1l0 : Int), k0 + m_ = a.length ∧ v5_ = .int .i64 (k0 : Int) ∧ v1_ = .int .i64 k_1l0 ∧ Hid (cntK (l0 a) m_ k0 (k_1l0) (e0 ) = some r) ∧ Hid (Below w.heap.size w wr))
  case atStart => exact ⟨0, _, by omega, rfl, rfl, H, HB⟩
  case round =>
    obtain ⟨k0, k_1l0, hkm0, rfl, rfl, H, HBwr0⟩ := hrel
    rename World => wr0
    cases gk with
    | zero =>
      obtain rfl : k0 = a.length := by omega
      have hc0 : decide (((a.length : Nat) : Int) < ((a.length : Nat) : Int)) = false := by simp
      replace H := cnt_zero H
      unfold e0 at H
      replace H := let_hid H
      obtain ⟨_, rfl, H⟩ := H
      obtain rfl := ret_hid H
      go_wp2_with fail
      go_ret
      exact ⟨rfl, HBwr0.out⟩
    | succ m0 =>
      have hlt0 : k0 < a.length := by omega
      have hc0 : decide ((k0 : Int) < ((a.length : Nat) : Int)) = true := by simp; omega
      replace H := cnt_succ H
      unfold l0 at H
      replace H := let_hid H
      obtain ⟨_, rfl, H⟩ := H
      go_wp2_with fail
      replace H := idx_hid H
      obtain ⟨nt_8, yt_8, et_8, lt_8, gt_8, H⟩ := H
      obtain rfl : k0 = nt_8 := by omega
      clear et_8
      obtain ⟨ab_t_8, ao_t_8, zt_8, At_8, z_t_8, ct_8_0⟩ := strs_at M0.out lt_8
      obtain rfl := Option.some.inj (gt_8.out.symm.trans z_t_8)
      subst At_8
      have ltt_8 := cell_lt ct_8_0
      replace ct_8_0 := cell_below HBwr0.out ct_8_0
      clear z_t_8
      have b0t_8 : (0 : Int) ≤ (k0 : Int) := by omega
      have b1t_8 : (k0 : Int) < ((a.length : Nat) : Int) := by omega
      have b2t_8 : ((k0 : Int)).toNat = k0 := by omega
      have Hct_8_0 := Lib.hid ct_8_0
      replace ct_8_0 := cell_regrown ct_8_0
      replace H := bind_hid H
      obtain ⟨t_11, qt_11, H⟩ := H
      have nt_11 : ∀ d os, Calls Try.prog 73 #[.int .i64 k_1l0] (Go.Sort.grow (redrawn wr0 d) os) fun e w'' => e = .returned (.string t_11) ∧ ∃ p : Regrown, w'' = Go.Sort.grow (redrawn wr0 p.d) p.os := fun d os => Calls.regrown_of (Go.Proofs.Ytpbbechgpgnpbaa.GlMarkText.C (k_1l0)  _    qt_11)
      replace H := let_hid H
      obtain ⟨t_12, ht_12, H⟩ := H
      refine wp_region_quiet_below (by kernel_rfl) (by kernel_rfl) ?_
      repeat (go_big_quiet_step (first | (go_at_call 73; exact nt_11 _ _)))
      refine wpQuiet_nil ?_
      intro Y4 hY4
      replace hY4 := below_class hY4
      clear nt_11
      replace ct_8_0 := Hct_8_0.out
      clear Hct_8_0
      have HBY4 := Lib.hid (Below.step HBwr0.out hY4)
      replace ct_8_0 := cell_below hY4 ct_8_0
      clear hY4
      cases t_12 with
      | false =>
        replace H := ite_f H
        replace H := let_hid H
        obtain ⟨t_15, ht_15, H⟩ := H
        replace H := app_hid H
        go_wp2_with fail
        go_roundg m0
        case measure => omega
        case rel => exact ⟨k0 + 1, _, by omega, by go_num, rfl, H, HBY4⟩
      | true =>
        replace H := ite_t H
        obtain rfl := ret_hid H
        go_wp2_with fail
        go_ret
        exact ⟨rfl, HBY4.out⟩
end Go.Proofs.Ytpbbechgpgnpbaa.GlHeldStringS

/- loop.example/g01062/laws.FnExactShadesOf as a plain function, and the contract of the program's: where the plain one has an answer, the program has it. Conditions: slices read as lists. -/
namespace Go.Proofs.Ytpbbechgpgnpbaa.GlFnExactShadesOf
set_option linter.unusedVariables false
set_option linter.unusedSimpArgs false
open Go.RowKit
open Go.Proofs.Ytpbbechgpgnpbaa.Rowed Go.Proofs.Ytpbbechgpgnpbaa.Turn Go.Proofs.Ytpbbechgpgnpbaa.Aid Go.Proofs.Ytpbbechgpgnpbaa.GoP Go.Proofs.Ytpbbechgpgnpbaa.GoM

def P (aList : (List Go.Proofs.Ytpbbechgpgnpbaa.PShade.Shade)) (aHue : Int) (aLight : Int) : Option (Bool) :=
  Option.bind (Go.Proofs.Ytpbbechgpgnpbaa.GlSzShadeS.P aList 1048576) fun (t_4 : Int) =>
  letK (decide (t_4 < 0)) fun (t_7 : Bool) =>
  iteK t_7
  (some true)
  (Option.bind (Go.Proofs.Ytpbbechgpgnpbaa.GlToShadeS.P aList) fun (t_10 : (List Go.Proofs.Ytpbbechgpgnpbaa.PShade.Shade)) =>
  bind2 (Go.Proofs.Ytpbbechgpgnpbaa.GsShadesOf.P t_10 aHue aLight) fun (t_13a : (List ByteArray)) (t_13b : Bool) =>
  Option.bind (Go.Proofs.Ytpbbechgpgnpbaa.GlToShadeS.P aList) fun (t_20 : (List Go.Proofs.Ytpbbechgpgnpbaa.PShade.Shade)) =>
  bind2 (Go.Proofs.Ytpbbechgpgnpbaa.GiShadesOf.P t_20 aHue aLight) fun (t_25a : (List ByteArray)) (t_25b : Bool) =>
  Option.bind (Go.Proofs.Ytpbbechgpgnpbaa.GlEqStringS.P t_25a t_13a) fun (t_33 : Bool) =>
  letK (!t_33) fun (t_34 : Bool) =>
  joinK (fun (t_39 : Bool) =>
  iteK t_39
  (some false)
  (Option.bind (Go.Proofs.Ytpbbechgpgnpbaa.GlToShadeS.P aList) fun (t_43 : (List Go.Proofs.Ytpbbechgpgnpbaa.PShade.Shade)) =>
  Option.bind (Go.Proofs.Ytpbbechgpgnpbaa.GlEqShadeS.P t_20 t_43) fun (t_44 : Bool) =>
  letK (!t_44) fun (t_45 : Bool) =>
  iteK t_45
  (some false)
  (bind2 (Go.Proofs.Ytpbbechgpgnpbaa.GlMarkShadeS.P t_20 1) fun (t_50 : Int) (lt_50 : (List Go.Proofs.Ytpbbechgpgnpbaa.PShade.Shade)) =>
  letK (decide (t_50 < 0)) fun (t_53 : Bool) =>
  joinK (fun (t_59 : Bool) =>
  joinK (fun (t_64 : Bool) =>
  iteK t_64
  (some false)
  (bind2 (Go.Proofs.Ytpbbechgpgnpbaa.GlMarkStringS.P t_25a 1) fun (t_69 : Int) (lt_69 : (List ByteArray)) =>
  Option.bind (Go.Proofs.Ytpbbechgpgnpbaa.GlHeldStringS.P lt_69 1) fun (t_74 : Int) =>
  letK (decide (t_74 < 0)) fun (t_77 : Bool) =>
  iteK t_77
  (some false)
  (letK (t_74 != t_69) fun (t_81 : Bool) =>
  iteK t_81
  (some false)
  (Option.bind (Go.Proofs.Ytpbbechgpgnpbaa.GlToShadeS.P aList) fun (t_84 : (List Go.Proofs.Ytpbbechgpgnpbaa.PShade.Shade)) =>
  bind2 (Go.Proofs.Ytpbbechgpgnpbaa.GiShadesOf.P t_84 aHue aLight) fun (t_87a : (List ByteArray)) (t_87b : Bool) =>
  Option.bind (Go.Proofs.Ytpbbechgpgnpbaa.GlEqStringS.P t_87a t_13a) fun (t_95 : Bool) =>
  letK (!t_95) fun (t_96 : Bool) =>
  joinK (fun (t_101 : Bool) =>
  iteK t_101
  (some false)
  (Option.bind (Go.Proofs.Ytpbbechgpgnpbaa.GlHeldStringS.P lt_69 1) fun (t_106 : Int) =>
  letK (decide (t_106 < 0)) fun (t_109 : Bool) =>
  iteK t_109
  (some false)
  (letK (t_106 != t_69) fun (t_113 : Bool) =>
  iteK t_113
  (some false)
  (some true)))) fun jt_101 => iteK t_96 (appK jt_101 true) (letK (!(t_87b == t_13b)) fun (t_100 : Bool) =>
  appK jt_101 t_100))))) fun jt_64 => iteK t_59 (appK jt_64 true) (letK (!(t_25b == t_13b)) fun (t_63 : Bool) =>
  appK jt_64 t_63)) fun jt_59 => iteK t_53 (appK jt_59 true) (Option.bind (Go.Proofs.Ytpbbechgpgnpbaa.GlEqStringS.P t_25a t_13a) fun (t_57 : Bool) =>
  letK (!t_57) fun (t_58 : Bool) =>
  appK jt_59 t_58)))) fun jt_39 => iteK t_34 (appK jt_39 true) (letK (!(t_25b == t_13b)) fun (t_38 : Bool) =>
  appK jt_39 t_38))

set_option maxRecDepth 100000 in
set_option maxHeartbeats 2000000 in
theorem C (aList : (List Go.Proofs.Ytpbbechgpgnpbaa.PShade.Shade)) (aHue : Int) (aLight : Int) (A0 : Option Addr) (c0 : Nat)  (w : World) (M0 : Hid (Cells w 5 A0 aList.length (Go.Proofs.Ytpbbechgpgnpbaa.PShade.flat aList))) (N0 : Hid (aList.length ≤ 9223372036854775807))  {r : Bool} (H : Hid (P aList aHue aLight = some r)) :
    Calls Try.prog 6 #[.slice A0 aList.length c0, .int .i64 aHue, .int .i64 aLight] w (Gives (.bool r) w) := by
  have HB := Lib.hid (Below.refl w.heap.size w)
  unfold P at H
  have N0o := N0.out
  go_enter Try.func6, Try.ntmps6
  replace H := bind_hid H
  obtain ⟨t_4, qt_4, H⟩ := H
  go_wp2_with fail
  go_at_call 19
  refine (Go.Proofs.Ytpbbechgpgnpbaa.GlSzShadeS.C (aList) (1048576) A0 c0 _   (Lib.hid (Cells.below M0.out HB.out)) N0 qt_4).mono ?_
  rintro e_t_4 wt_4 ⟨rfl, bt_4⟩
  have HBwt_4 := Lib.hid (Below.step HB.out bt_4)
  clear bt_4
  replace H := let_hid H
  obtain ⟨t_7, ht_7, H⟩ := H
  cases t_7 with
  | false =>
    replace H := ite_f H
    replace H := bind_hid H
    obtain ⟨t_10, qt_10, H⟩ := H
    go_wp2_with fail
    go_at_call 21
    refine (Go.Proofs.Ytpbbechgpgnpbaa.GlToShadeS.C (aList) A0 c0 _   (Lib.hid (Cells.below M0.out HBwt_4.out)) N0 qt_10).mono ?_
    rintro e_t_10 wt_10 ⟨At_10, ct_10, rfl, ot_10, bt_10⟩
    have Ot_10 := Lib.hid (own_lower ot_10 HBwt_4.out.size)
    clear ot_10
    have HBwt_10 := Lib.hid (Below.step HBwt_4.out bt_10)
    clear bt_10
    replace H := bind2_hid H
    obtain ⟨t_13a, t_13b, qt_13, H⟩ := H
    go_wp2_with fail
    go_at_call 26
    refine (Go.Proofs.Ytpbbechgpgnpbaa.GsShadesOf.C (t_10) (aHue) (aLight) At_10 ct_10 _   (Lib.hid (own_cells Ot_10.out)) (Lib.hid (own_max Ot_10.out)) qt_13).mono ?_
    rintro e_t_13 wt_13 ⟨At_13a, ct_13a, rfl, ot_13a, bt_13⟩
    have Dt_13a_t_10 := Lib.hid (apart_call ot_13a Ot_10.out)
    have Ot_13a := Lib.hid (own_lower ot_13a HBwt_10.out.size)
    clear ot_13a
    have HBwt_13 := Lib.hid (Below.step HBwt_10.out bt_13)
    replace Ot_10 := Lib.hid (own_below Ot_10.out bt_13)
    clear bt_13
    replace H := bind_hid H
    obtain ⟨t_20, qt_20, H⟩ := H
    go_wp2_with fail
    go_at_call 21
    refine (Go.Proofs.Ytpbbechgpgnpbaa.GlToShadeS.C (aList) A0 c0 _   (Lib.hid (Cells.below M0.out HBwt_13.out)) N0 qt_20).mono ?_
    rintro e_t_20 wt_20 ⟨At_20, ct_20, rfl, ot_20, bt_20⟩
    have Dt_20_t_10 := Lib.hid (apart_call ot_20 Ot_10.out)
    have Dt_20_t_13a := Lib.hid (apart_call ot_20 Ot_13a.out)
    have Ot_20 := Lib.hid (own_lower ot_20 HBwt_13.out.size)
    clear ot_20
    have HBwt_20 := Lib.hid (Below.step HBwt_13.out bt_20)
    replace Ot_10 := Lib.hid (own_below Ot_10.out bt_20)
    replace Ot_13a := Lib.hid (own_below Ot_13a.out bt_20)
    clear bt_20
    replace H := bind2_hid H
    obtain ⟨t_25a, t_25b, qt_25, H⟩ := H
    go_wp2_with fail
    go_at_call 27
    refine (Go.Proofs.Ytpbbechgpgnpbaa.GiShadesOf.C (t_20) (aHue) (aLight) At_20 ct_20 _   (Lib.hid (own_cells Ot_20.out)) (Lib.hid (own_max Ot_20.out)) qt_25).mono ?_
    rintro e_t_25 wt_25 ⟨At_25a, ct_25a, rfl, ot_25a, bt_25⟩
    have Dt_25a_t_10 := Lib.hid (apart_call ot_25a Ot_10.out)
    have Dt_25a_t_13a := Lib.hid (apart_call ot_25a Ot_13a.out)
    have Dt_25a_t_20 := Lib.hid (apart_call ot_25a Ot_20.out)
    have Ot_25a := Lib.hid (own_lower ot_25a HBwt_20.out.size)
    clear ot_25a
    have HBwt_25 := Lib.hid (Below.step HBwt_20.out bt_25)
    replace Ot_10 := Lib.hid (own_below Ot_10.out bt_25)
    replace Ot_13a := Lib.hid (own_below Ot_13a.out bt_25)
    replace Ot_20 := Lib.hid (own_below Ot_20.out bt_25)
    clear bt_25
    replace H := bind_hid H
    obtain ⟨t_33, qt_33, H⟩ := H
    go_wp2_with fail
    go_at_call 28
    refine (Go.Proofs.Ytpbbechgpgnpbaa.GlEqStringS.C (t_25a) (t_13a) At_25a ct_25a At_13a ct_13a _   (Lib.hid (own_cells Ot_25a.out)) (Lib.hid (own_max Ot_25a.out)) (Lib.hid (own_cells Ot_13a.out)) (Lib.hid (own_max Ot_13a.out)) qt_33).mono ?_
    rintro e_t_33 wt_33 ⟨rfl, bt_33⟩
    have HBwt_33 := Lib.hid (Below.step HBwt_25.out bt_33)
    replace Ot_10 := Lib.hid (own_below Ot_10.out bt_33)
    replace Ot_13a := Lib.hid (own_below Ot_13a.out bt_33)
    replace Ot_20 := Lib.hid (own_below Ot_20.out bt_33)
    replace Ot_25a := Lib.hid (own_below Ot_25a.out bt_33)
    clear bt_33
    cases t_33 with
    | false =>
      replace H := let_hid H
      obtain ⟨t_34, ht_34, H⟩ := H
      obtain rfl : t_34 = true := ht_34.symm
      replace H := join_hid H
      replace H := ite_t H
      replace H := app_hid H
      replace H := ite_t H
      obtain rfl := ret_hid H
      go_wp2_with fail
      go_ret
      exact ⟨rfl, HBwt_33.out⟩
    | true =>
      replace H := let_hid H
      obtain ⟨t_34, ht_34, H⟩ := H
      obtain rfl : t_34 = false := ht_34.symm
      replace H := join_hid H
      replace H := ite_f H
      replace H := let_hid H
      obtain ⟨t_38, ht_38, H⟩ := H
      replace H := app_hid H
      cases t_38 with
      | false =>
        replace H := ite_f H
        replace H := bind_hid H
        obtain ⟨t_43, qt_43, H⟩ := H
        go_wp2_with fail
        go_at_call 21
        refine (Go.Proofs.Ytpbbechgpgnpbaa.GlToShadeS.C (aList) A0 c0 _   (Lib.hid (Cells.below M0.out HBwt_33.out)) N0 qt_43).mono ?_
        rintro e_t_43 wt_43 ⟨At_43, ct_43, rfl, ot_43, bt_43⟩
        have Dt_43_t_10 := Lib.hid (apart_call ot_43 Ot_10.out)
        have Dt_43_t_13a := Lib.hid (apart_call ot_43 Ot_13a.out)
        have Dt_43_t_20 := Lib.hid (apart_call ot_43 Ot_20.out)
        have Dt_43_t_25a := Lib.hid (apart_call ot_43 Ot_25a.out)
        have Ot_43 := Lib.hid (own_lower ot_43 HBwt_33.out.size)
        clear ot_43
        have HBwt_43 := Lib.hid (Below.step HBwt_33.out bt_43)
        replace Ot_10 := Lib.hid (own_below Ot_10.out bt_43)
        replace Ot_13a := Lib.hid (own_below Ot_13a.out bt_43)
        replace Ot_20 := Lib.hid (own_below Ot_20.out bt_43)
        replace Ot_25a := Lib.hid (own_below Ot_25a.out bt_43)
        clear bt_43
        replace H := bind_hid H
        obtain ⟨t_44, qt_44, H⟩ := H
        go_wp2_with fail
        go_at_call 23
        refine (Go.Proofs.Ytpbbechgpgnpbaa.GlEqShadeS.C (t_20) (t_43) At_20 ct_20 At_43 ct_43 _   (Lib.hid (own_cells Ot_20.out)) (Lib.hid (own_max Ot_20.out)) (Lib.hid (own_cells Ot_43.out)) (Lib.hid (own_max Ot_43.out)) qt_44).mono ?_
        rintro e_t_44 wt_44 ⟨rfl, bt_44⟩
        have HBwt_44 := Lib.hid (Below.step HBwt_43.out bt_44)
        replace Ot_10 := Lib.hid (own_below Ot_10.out bt_44)
        replace Ot_13a := Lib.hid (own_below Ot_13a.out bt_44)
        replace Ot_20 := Lib.hid (own_below Ot_20.out bt_44)
        replace Ot_25a := Lib.hid (own_below Ot_25a.out bt_44)
        replace Ot_43 := Lib.hid (own_below Ot_43.out bt_44)
        clear bt_44
        cases t_44 with
        | false =>
          replace H := let_hid H
          obtain ⟨t_45, ht_45, H⟩ := H
          obtain rfl : t_45 = true := ht_45.symm
          replace H := ite_t H
          obtain rfl := ret_hid H
          go_wp2_with fail
          go_ret
          exact ⟨rfl, HBwt_44.out⟩
        | true =>
          replace H := let_hid H
          obtain ⟨t_45, ht_45, H⟩ := H
          obtain rfl : t_45 = false := ht_45.symm
          replace H := ite_f H
          replace H := bind2_hid H
          obtain ⟨t_50, lt_50, qt_50, H⟩ := H
          go_wp2_with fail
          go_at_call 29
          refine (Go.Proofs.Ytpbbechgpgnpbaa.GlMarkShadeS.C (t_20) (1) At_20 ct_20 w.heap.size _   Ot_20 (Lib.hid (own_max Ot_20.out))   qt_50).mono ?_
          rintro e_t_50 wt_50 ⟨rfl, ot_50, nt_50, gt_50⟩
          have Pt_50 := Lib.hid ot_50
          have Gt_50 := Lib.hid gt_50
          replace nt_50 := Lib.hid nt_50
          clear ot_50 gt_50
          have HBwt_50 := Lib.hid (HBwt_44.out.grown Gt_50.out HBwt_44.out.size (fun q hq => (Ot_20.out.lt q hq).1))
          replace Ot_10 := Lib.hid (own_other Ot_10.out Gt_50.out Dt_20_t_10.out)
          replace Ot_13a := Lib.hid (own_other Ot_13a.out Gt_50.out Dt_20_t_13a.out)
          replace Ot_25a := Lib.hid (own_other Ot_25a.out Gt_50.out (Apart.symm Dt_25a_t_20.out))
          replace Ot_43 := Lib.hid (own_other Ot_43.out Gt_50.out (Apart.symm Dt_43_t_20.out))
          clear Ot_20 Gt_50
          replace H := let_hid H
          obtain ⟨t_53, ht_53, H⟩ := H
          replace H := join_hid H
          cases t_53 with
          | false =>
            replace H := ite_f H
            replace H := bind_hid H
            obtain ⟨t_57, qt_57, H⟩ := H
            go_wp2_with fail
            go_at_call 28
            refine (Go.Proofs.Ytpbbechgpgnpbaa.GlEqStringS.C (t_25a) (t_13a) At_25a ct_25a At_13a ct_13a _   (Lib.hid (own_cells Ot_25a.out)) (Lib.hid (own_max Ot_25a.out)) (Lib.hid (own_cells Ot_13a.out)) (Lib.hid (own_max Ot_13a.out)) qt_57).mono ?_
            rintro e_t_57 wt_57 ⟨rfl, bt_57⟩
            have HBwt_57 := Lib.hid (Below.step HBwt_50.out bt_57)
            replace Ot_10 := Lib.hid (own_below Ot_10.out bt_57)
            replace Ot_13a := Lib.hid (own_below Ot_13a.out bt_57)
            replace Pt_50 := Lib.hid (own_below Pt_50.out bt_57)
            replace Ot_25a := Lib.hid (own_below Ot_25a.out bt_57)
            replace Ot_43 := Lib.hid (own_below Ot_43.out bt_57)
            clear bt_57
            cases t_57 with
            | false =>
              replace H := let_hid H
              obtain ⟨t_58, ht_58, H⟩ := H
              obtain rfl : t_58 = true := ht_58.symm
              replace H := app_hid H
              replace H := join_hid H
              replace H := ite_t H
              replace H := app_hid H
              replace H := ite_t H
              obtain rfl := ret_hid H
              go_wp2_with fail
              go_ret
              exact ⟨rfl, HBwt_57.out⟩
            | true =>
              replace H := let_hid H
              obtain ⟨t_58, ht_58, H⟩ := H
              obtain rfl : t_58 = false := ht_58.symm
              replace H := app_hid H
              replace H := join_hid H
              replace H := ite_f H
              replace H := let_hid H
              obtain ⟨t_63, ht_63, H⟩ := H
              obtain rfl := ht_38.symm.trans ht_63
              replace H := app_hid H
              replace H := ite_f H
              replace H := bind2_hid H
              obtain ⟨t_69, lt_69, qt_69, H⟩ := H
              go_wp2_with fail
              go_at_call 30
              refine (Go.Proofs.Ytpbbechgpgnpbaa.GlMarkStringS.C (t_25a) (1) At_25a ct_25a w.heap.size _   Ot_25a (Lib.hid (own_max Ot_25a.out))   qt_69).mono ?_
              rintro e_t_69 wt_69 ⟨rfl, ot_69, nt_69, gt_69⟩
              have Pt_69 := Lib.hid ot_69
              have Gt_69 := Lib.hid gt_69
              replace nt_69 := Lib.hid nt_69
              clear ot_69 gt_69
              have HBwt_69 := Lib.hid (HBwt_57.out.grown Gt_69.out HBwt_57.out.size (fun q hq => (Ot_25a.out.lt q hq).1))
              replace Ot_10 := Lib.hid (own_other Ot_10.out Gt_69.out Dt_25a_t_10.out)
              replace Ot_13a := Lib.hid (own_other Ot_13a.out Gt_69.out Dt_25a_t_13a.out)
              replace Pt_50 := Lib.hid (own_other Pt_50.out Gt_69.out Dt_25a_t_20.out)
              replace Ot_43 := Lib.hid (own_other Ot_43.out Gt_69.out (Apart.symm Dt_43_t_25a.out))
              clear Ot_25a Gt_69
              replace H := bind_hid H
              obtain ⟨t_74, qt_74, H⟩ := H
              go_wp2_with fail
              have hc_ := nt_69.out
              have hv_ : (Value.slice At_25a t_25a.length ct_25a : Value) = Value.slice At_25a lt_69.length ct_25a := by rw [hc_]
              try rw [hv_]
              replace Pt_69 := Lib.hid (own_len hc_ Pt_69.out)
              clear hc_ hv_
              go_wp2_with fail
              go_at_call 31
              refine (Go.Proofs.Ytpbbechgpgnpbaa.GlHeldStringS.C (lt_69) (1) At_25a ct_25a _   (Lib.hid (own_cells Pt_69.out)) (Lib.hid (own_max Pt_69.out)) qt_74).mono ?_
              rintro e_t_74 wt_74 ⟨rfl, bt_74⟩
              have HBwt_74 := Lib.hid (Below.step HBwt_69.out bt_74)
              replace Ot_10 := Lib.hid (own_below Ot_10.out bt_74)
              replace Ot_13a := Lib.hid (own_below Ot_13a.out bt_74)
              replace Pt_50 := Lib.hid (own_below Pt_50.out bt_74)
              replace Pt_69 := Lib.hid (own_below Pt_69.out bt_74)
              replace Ot_43 := Lib.hid (own_below Ot_43.out bt_74)
              clear bt_74
              replace H := let_hid H
              obtain ⟨t_77, ht_77, H⟩ := H
              cases t_77 with
              | false =>
                replace H := ite_f H
                replace H := let_hid H
                obtain ⟨t_81, ht_81, H⟩ := H
                cases t_81 with
                | false =>
                  replace H := ite_f H
                  replace H := bind_hid H
                  obtain ⟨t_84, qt_84, H⟩ := H
                  go_wp2_with fail
                  go_at_call 21
                  refine (Go.Proofs.Ytpbbechgpgnpbaa.GlToShadeS.C (aList) A0 c0 _   (Lib.hid (Cells.below M0.out HBwt_74.out)) N0 qt_84).mono ?_
                  rintro e_t_84 wt_84 ⟨At_84, ct_84, rfl, ot_84, bt_84⟩
                  have Dt_84_t_10 := Lib.hid (apart_call ot_84 Ot_10.out)
                  have Dt_84_t_13a := Lib.hid (apart_call ot_84 Ot_13a.out)
                  have Dt_84_t_20 := Lib.hid (apart_call ot_84 Pt_50.out)
                  have Dt_84_t_25a := Lib.hid (apart_call ot_84 Pt_69.out)
                  have Dt_84_t_43 := Lib.hid (apart_call ot_84 Ot_43.out)
                  have Ot_84 := Lib.hid (own_lower ot_84 HBwt_74.out.size)
                  clear ot_84
                  have HBwt_84 := Lib.hid (Below.step HBwt_74.out bt_84)
                  replace Ot_10 := Lib.hid (own_below Ot_10.out bt_84)
                  replace Ot_13a := Lib.hid (own_below Ot_13a.out bt_84)
                  replace Pt_50 := Lib.hid (own_below Pt_50.out bt_84)
                  replace Pt_69 := Lib.hid (own_below Pt_69.out bt_84)
                  replace Ot_43 := Lib.hid (own_below Ot_43.out bt_84)
                  clear bt_84
                  replace H := bind2_hid H
                  obtain ⟨t_87a, t_87b, qt_87, H⟩ := H
                  go_wp2_with fail
                  go_at_call 27
                  refine (Go.Proofs.Ytpbbechgpgnpbaa.GiShadesOf.C (t_84) (aHue) (aLight) At_84 ct_84 _   (Lib.hid (own_cells Ot_84.out)) (Lib.hid (own_max Ot_84.out)) qt_87).mono ?_
                  rintro e_t_87 wt_87 ⟨At_87a, ct_87a, rfl, ot_87a, bt_87⟩
                  have Dt_87a_t_10 := Lib.hid (apart_call ot_87a Ot_10.out)
                  have Dt_87a_t_13a := Lib.hid (apart_call ot_87a Ot_13a.out)
                  have Dt_87a_t_20 := Lib.hid (apart_call ot_87a Pt_50.out)
                  have Dt_87a_t_25a := Lib.hid (apart_call ot_87a Pt_69.out)
                  have Dt_87a_t_43 := Lib.hid (apart_call ot_87a Ot_43.out)
                  have Dt_87a_t_84 := Lib.hid (apart_call ot_87a Ot_84.out)
                  have Ot_87a := Lib.hid (own_lower ot_87a HBwt_84.out.size)
                  clear ot_87a
                  have HBwt_87 := Lib.hid (Below.step HBwt_84.out bt_87)
                  replace Ot_10 := Lib.hid (own_below Ot_10.out bt_87)
                  replace Ot_13a := Lib.hid (own_below Ot_13a.out bt_87)
                  replace Pt_50 := Lib.hid (own_below Pt_50.out bt_87)
                  replace Pt_69 := Lib.hid (own_below Pt_69.out bt_87)
                  replace Ot_43 := Lib.hid (own_below Ot_43.out bt_87)
                  replace Ot_84 := Lib.hid (own_below Ot_84.out bt_87)
                  clear bt_87
                  replace H := bind_hid H
                  obtain ⟨t_95, qt_95, H⟩ := H
                  go_wp2_with fail
                  go_at_call 28
                  refine (Go.Proofs.Ytpbbechgpgnpbaa.GlEqStringS.C (t_87a) (t_13a) At_87a ct_87a At_13a ct_13a _   (Lib.hid (own_cells Ot_87a.out)) (Lib.hid (own_max Ot_87a.out)) (Lib.hid (own_cells Ot_13a.out)) (Lib.hid (own_max Ot_13a.out)) qt_95).mono ?_
                  rintro e_t_95 wt_95 ⟨rfl, bt_95⟩
                  have HBwt_95 := Lib.hid (Below.step HBwt_87.out bt_95)
                  replace Ot_10 := Lib.hid (own_below Ot_10.out bt_95)
                  replace Ot_13a := Lib.hid (own_below Ot_13a.out bt_95)
                  replace Pt_50 := Lib.hid (own_below Pt_50.out bt_95)
                  replace Pt_69 := Lib.hid (own_below Pt_69.out bt_95)
                  replace Ot_43 := Lib.hid (own_below Ot_43.out bt_95)
                  replace Ot_84 := Lib.hid (own_below Ot_84.out bt_95)
                  replace Ot_87a := Lib.hid (own_below Ot_87a.out bt_95)
                  clear bt_95
                  cases t_95 with
                  | false =>
                    replace H := let_hid H
                    obtain ⟨t_96, ht_96, H⟩ := H
                    obtain rfl : t_96 = true := ht_96.symm
                    replace H := join_hid H
                    replace H := ite_t H
                    replace H := app_hid H
                    replace H := ite_t H
                    obtain rfl := ret_hid H
                    go_wp2_with fail
                    go_ret
                    exact ⟨rfl, HBwt_95.out⟩
                  | true =>
                    replace H := let_hid H
                    obtain ⟨t_96, ht_96, H⟩ := H
                    obtain rfl : t_96 = false := ht_96.symm
                    replace H := join_hid H
                    replace H := ite_f H
                    replace H := let_hid H
                    obtain ⟨t_100, ht_100, H⟩ := H
                    replace H := app_hid H
                    cases t_100 with
                    | false =>
                      replace H := ite_f H
                      replace H := bind_hid H
                      obtain ⟨t_106, qt_106, H⟩ := H
                      go_wp2_with fail
                      go_at_call 31
                      refine (Go.Proofs.Ytpbbechgpgnpbaa.GlHeldStringS.C (lt_69) (1) At_25a ct_25a _   (Lib.hid (own_cells Pt_69.out)) (Lib.hid (own_max Pt_69.out)) qt_106).mono ?_
                      rintro e_t_106 wt_106 ⟨rfl, bt_106⟩
                      have HBwt_106 := Lib.hid (Below.step HBwt_95.out bt_106)
                      replace Ot_10 := Lib.hid (own_below Ot_10.out bt_106)
                      replace Ot_13a := Lib.hid (own_below Ot_13a.out bt_106)
                      replace Pt_50 := Lib.hid (own_below Pt_50.out bt_106)
                      replace Pt_69 := Lib.hid (own_below Pt_69.out bt_106)
                      replace Ot_43 := Lib.hid (own_below Ot_43.out bt_106)
                      replace Ot_84 := Lib.hid (own_below Ot_84.out bt_106)
                      replace Ot_87a := Lib.hid (own_below Ot_87a.out bt_106)
                      clear bt_106
                      replace H := let_hid H
                      obtain ⟨t_109, ht_109, H⟩ := H
                      cases t_109 with
                      | false =>
                        replace H := ite_f H
                        replace H := let_hid H
                        obtain ⟨t_113, ht_113, H⟩ := H
                        cases t_113 with
                        | false =>
                          replace H := ite_f H
                          obtain rfl := ret_hid H
                          go_wp2_with fail
                          go_ret
                          exact ⟨rfl, HBwt_106.out⟩
                        | true =>
                          replace H := ite_t H
                          obtain rfl := ret_hid H
                          go_wp2_with fail
                          go_ret
                          exact ⟨rfl, HBwt_106.out⟩
                      | true =>
                        replace H := ite_t H
                        obtain rfl := ret_hid H
                        go_wp2_with fail
                        go_ret
                        exact ⟨rfl, HBwt_106.out⟩
                    | true =>
                      replace H := ite_t H
                      obtain rfl := ret_hid H
                      go_wp2_with fail
                      go_ret
                      exact ⟨rfl, HBwt_95.out⟩
                | true =>
                  replace H := ite_t H
                  obtain rfl := ret_hid H
                  go_wp2_with fail
                  go_ret
                  exact ⟨rfl, HBwt_74.out⟩
              | true =>
                replace H := ite_t H
                obtain rfl := ret_hid H
                go_wp2_with fail
                go_ret
                exact ⟨rfl, HBwt_74.out⟩
          | true =>
            replace H := ite_t H
            replace H := app_hid H
            replace H := join_hid H
            replace H := ite_t H
            replace H := app_hid H
            replace H := ite_t H
            obtain rfl := ret_hid H
            go_wp2_with fail
            go_ret
            exact ⟨rfl, HBwt_50.out⟩
      | true =>
        replace H := ite_t H
        obtain rfl := ret_hid H
        go_wp2_with fail
        go_ret
        exact ⟨rfl, HBwt_33.out⟩
  | true =>
    replace H := ite_t H
    obtain rfl := ret_hid H
    go_wp2_with fail
    go_ret
    exact ⟨rfl, HBwt_4.out⟩
end Go.Proofs.Ytpbbechgpgnpbaa.GlFnExactShadesOf

/- Plain words on stamps: what a stamp is, when one is valid, when a list of them is; the cells of a list of records. No condition. -/
namespace Go.Proofs.Ytpbbechgpgnpbaa.PlainStamp
set_option linter.unusedVariables false

/-- a number lies in a..b -/
def inB (x a b : Int) : Bool := decide (a ≤ x ∧ x ≤ b)
theorem inB_yes {x a b : Int} (h1 : a ≤ x) (h2 : x ≤ b) : inB x a b = true := by unfold inB; exact decide_eq_true ⟨h1, h2⟩
theorem inB_of {x a b : Int} (h : inB x a b = true) : a ≤ x ∧ x ≤ b := by unfold inB at h; exact of_decide_eq_true h
theorem inB_no {x a b : Int} (h : x < a ∨ b < x) : inB x a b = false := by unfold inB; exact decide_eq_false (by omega)

structure St where
  id : Int
  face : Int
  color : Int
  year : Int
deriving DecidableEq

def St.cells (s : St) : List Value := [.int .i64 s.id, .int .i64 s.face, .int .i64 s.color, .int .i64 s.year]
def St.val (s : St) : Value := .agg #[.int .i64 s.id, .int .i64 s.face, .int .i64 s.color, .int .i64 s.year]
/-- each field fits an int -/
def St.fits (s : St) : Prop := (Lit.int .i64 s.id).wf = true ∧ (Lit.int .i64 s.face).wf = true ∧ (Lit.int .i64 s.color).wf = true ∧ (Lit.int .i64 s.year).wf = true

def okSt (s : St) : Bool := inB s.id 1 999 && inB s.face 0 9999 && inB s.color 0 99 && inB s.year 1840 2100
theorem okSt_yes {s : St} (h : okSt s = true) : (1 ≤ s.id ∧ s.id ≤ 999) ∧ (0 ≤ s.face ∧ s.face ≤ 9999) ∧ (0 ≤ s.color ∧ s.color ≤ 99) ∧ (1840 ≤ s.year ∧ s.year ≤ 2100) := by
  unfold okSt at h
  simp only [Bool.and_eq_true] at h
  exact ⟨inB_of h.1.1.1, inB_of h.1.1.2, inB_of h.1.2, inB_of h.2⟩

/-- the stamp at k is valid, and its id is above the one ahead of it -/
def okAt (l : List St) (k : Nat) : Bool :=
  match l[k]? with
  | none => true
  | some s => okSt s && (decide (k = 0) || (match l[k-1]? with | none => true | some r => decide (r.id < s.id)))
def okUp (l : List St) (k : Nat) : Bool := (List.range k).all (okAt l)
theorem okUp_zero (l : List St) : okUp l 0 = true := by simp [okUp]
theorem okUp_succ (l : List St) (k : Nat) : okUp l (k + 1) = (okUp l k && okAt l k) := by simp [okUp, List.range_succ, List.all_append]
theorem okUp_not {l : List St} {k n : Nat} (h : okAt l k = false) (hk : k < n) : okUp l n = false := by
  unfold okUp
  rw [Bool.eq_false_iff]
  intro hall
  have := List.all_eq_true.1 hall k (List.mem_range.2 hk)
  rw [h] at this; exact absurd this (by simp)
/-- a list of at most twelve valid stamps with rising ids -/
def okSts (l : List St) : Bool := decide (l.length ≤ 12) && okUp l l.length
theorem okAt_of {l : List St} {k : Nat} {s : St} (hs : l[k]? = some s) (h : okAt l k = true) : okSt s = true ∧ ∀ r, 0 < k → l[k-1]? = some r → r.id < s.id := by
  unfold okAt at h
  rw [hs] at h
  simp only [Bool.and_eq_true, Bool.or_eq_true, decide_eq_true_eq] at h
  refine ⟨h.1, fun r hk hr => ?_⟩
  rcases h.2 with h0 | h0
  · omega
  · rw [hr] at h0; simpa using h0
theorem okSts_len {l : List St} (h : okSts l = true) : l.length ≤ 12 := by unfold okSts at h; simp only [Bool.and_eq_true, decide_eq_true_eq] at h; exact h.1
theorem okSts_at {l : List St} (h : okSts l = true) {k : Nat} {s : St} (hs : l[k]? = some s) : okSt s = true ∧ ∀ r, 0 < k → l[k-1]? = some r → r.id < s.id := by
  unfold okSts at h
  simp only [Bool.and_eq_true, decide_eq_true_eq] at h
  exact okAt_of hs (List.all_eq_true.1 h.2 k (List.mem_range.2 (List.getElem?_eq_some_iff.1 hs).1))
theorem okSts_mem {l : List St} (h : okSts l = true) {s : St} (hs : s ∈ l) : okSt s = true := by
  obtain ⟨k, hk⟩ := List.getElem?_of_mem hs
  exact (okSts_at h hk).1

/-- the cells of a list of stamps, one after the other -/
def flat (l : List St) : List Value := l.flatMap St.cells
theorem flat_nil : flat [] = [] := rfl
theorem flat_cons (s : St) (l : List St) : flat (s :: l) = s.cells ++ flat l := by simp [flat]
theorem flat_len (l : List St) : (flat l).length = l.length * 4 := by
  induction l with
  | nil => rfl
  | cons s l ih => rw [flat_cons, List.length_append, ih]; simp [St.cells]; omega
theorem flat_at : ∀ (l : List St) (k : Nat) (s : St), l[k]? = some s → ∀ j, j < 4 → (flat l)[k * 4 + j]? = s.cells[j]?
  | [], k, s, h, _, _ => by simp at h
  | r :: l, 0, s, h, j, hj => by
    obtain rfl : r = s := by simpa using h
    rw [flat_cons, List.getElem?_append_left (by simp [St.cells]; omega)]; simp
  | r :: l, k + 1, s, h, j, hj => by
    rw [flat_cons, List.getElem?_append_right (by simp [St.cells]; omega), show (k + 1) * 4 + j - r.cells.length = k * 4 + j by simp [St.cells]; omega]
    exact flat_at l k s (by simpa using h) j hj
end Go.Proofs.Ytpbbechgpgnpbaa.PlainStamp

/- Words for reckoning with plain functions; within and l1In. No condition. -/
namespace Go.Proofs.Ytpbbechgpgnpbaa.QBase
set_option linter.unusedVariables false
set_option linter.unusedSimpArgs false
open Go.RowKit
open Go.Proofs.Ytpbbechgpgnpbaa.GoP Go.Proofs.Ytpbbechgpgnpbaa.PlainStamp

theorem iteK_if {ρ : Type} (c : Bool) (a b : Option ρ) : iteK c a b = if c = true then a else b := by cases c <;> rfl
theorem bind2_some {α β ρ : Type} (a : α) (b : β) (f : α → β → Option ρ) : bind2 (some (a, b)) f = f a b := rfl
theorem bind3_some {α β γ ρ : Type} (a : α) (b : β) (c : γ) (f : α → β → γ → Option ρ) : bind3 (some (a, b, c)) f = f a b c := rfl
theorem unp2_mk {α β ρ : Type} (a : α) (b : β) (f : α → β → Option ρ) : unp2 (a, b) f = f a b := rfl
theorem unp3_mk {α β γ ρ : Type} (a : α) (b : β) (c : γ) (f : α → β → γ → Option ρ) : unp3 (a, b, c) f = f a b c := rfl
theorem guardK_pos {ρ : Type} {p : Prop} [Decidable p] {a : Option ρ} (h : p) : guardK p a = a := if_pos h
theorem cut2 {α β : Type} {x : Option (α × β)} {p : α × β} (h : x = some p) : x = some (p.1, p.2) := h
theorem cut3 {α β γ : Type} {x : Option (α × β × γ)} {p : α × β × γ} (h : x = some p) : x = some (p.1, p.2.1, p.2.2) := h
theorem within_eq (n a b : Int) : GiWithin.P n a b = some (inB n a b) := by
  simp only [GiWithin.P, letK, joinK, appK, iteK_if, inB]
  by_cases h1 : a ≤ n <;> by_cases h2 : n ≤ b <;> simp [h1, h2]
theorem l1In_eq (n a b : Int) : GsL1In.P n a b = some (inB n a b) := by
  simp only [GsL1In.P, letK, joinK, appK, iteK_if, inB]
  by_cases h1 : a ≤ n <;> by_cases h2 : n ≤ b <;> simp [h1, h2]
end Go.Proofs.Ytpbbechgpgnpbaa.QBase

/- Reckoning with the loops of plain functions; lists of valid records with rising ids. No condition. -/
namespace Go.Proofs.Ytpbbechgpgnpbaa.QLoop
set_option linter.unusedVariables false
open Go.RowKit
open Go.Proofs.Ytpbbechgpgnpbaa.GoP Go.Proofs.Ytpbbechgpgnpbaa.QBase

theorem cnt_ex {σ ρ : Type} {f : Nat → σ → (σ → Option ρ) → (σ → Option ρ) → Option ρ} {fin : σ → Option ρ} {Q : ρ → Prop} {n : Nat} (I : Nat → σ → Prop)
    (step : ∀ k s nx, k < n → I k s → (∀ s', I (k + 1) s' → ∃ r, nx s' = some r ∧ Q r) → ∃ r, f k s nx fin = some r ∧ Q r) (done : ∀ s, I n s → ∃ r, fin s = some r ∧ Q r) :
    ∀ m k s, k + m = n → I k s → ∃ r, cntK f m k s fin = some r ∧ Q r := by
  intro m
  induction m with
  | zero => intro k s hk hI; obtain rfl : k = n := by omega
            exact done s hI
  | succ m ih => intro k s hk hI; exact step k s _ (by omega) hI (fun s' h' => ih (k + 1) s' (by omega) h')
theorem cnt_is {σ ρ : Type} {f : Nat → σ → (σ → Option ρ) → (σ → Option ρ) → Option ρ} {fin : σ → Option ρ} {n : Nat} (r : ρ) (I : Nat → σ → Prop)
    (step : ∀ k s nx, k < n → I k s → (∀ s', I (k + 1) s' → nx s' = some r) → f k s nx fin = some r) (done : ∀ s, I n s → fin s = some r) (s : σ) (h0 : I 0 s) : cntK f n 0 s fin = some r := by
  obtain ⟨r', h, rfl⟩ := cnt_ex (Q := fun x => x = r) I (fun k s nx hk hI hn => ⟨r, step k s nx hk hI (fun s' h' => by obtain ⟨_, h, rfl⟩ := hn s' h'; exact h), rfl⟩) (fun s h => ⟨r, done s h, rfl⟩) n 0 s (by omega) h0
  exact h
theorem at_lt {α : Type} {l : List α} {k : Nat} (h : k < l.length) : ∃ x, l[k]? = some x ∧ idx l (k : Int) = some x := ⟨l[k], List.getElem?_eq_getElem h, by rw [idx_nat, List.getElem?_eq_getElem h]⟩
theorem idx_pred {α : Type} {l : List α} {k : Nat} {x : α} (hk : 0 < k) (hb : k ≤ 9223372036854775807) (h : l[k - 1]? = some x) : idx l (IntKind.i64.wrap ((k : Int) - 1)) = some x := by
  rw [IntWalk.i64_in _ (by omega), show ((k : Int) - 1) = ((k - 1 : Nat) : Int) by omega, idx_nat, h]
theorem take_next {α : Type} {l : List α} {k : Nat} {x : α} (h : l[k]? = some x) : l.take (k + 1) = l.take k ++ [x] := by
  obtain ⟨hk, e⟩ := List.getElem?_eq_some_iff.1 h
  rw [List.take_succ_eq_append_getElem hk, e]
theorem all_next {α : Type} {p : α → Bool} {l : List α} {k : Nat} {x : α} (h : l[k]? = some x) : (l.take (k + 1)).all p = ((l.take k).all p && p x) := by
  rw [take_next h]; simp
theorem not_all {α : Type} {p : α → Bool} {l : List α} {k : Nat} {x : α} (h : l[k]? = some x) (hp : p x = false) : l.all p = false := by
  rw [Bool.eq_false_iff]
  intro ha
  have := List.all_eq_true.1 ha x (List.mem_of_getElem? h)
  rw [hp] at this; exact absurd this (by simp)
theorem wrap_in {x : Int} (h1 : -9223372036854775808 ≤ x) (h2 : x ≤ 9223372036854775807) : IntKind.i64.wrap x = x := IntWalk.i64_in _ (by omega)

/-- valid, and above the one ahead of it -/
def upAt {α : Type} (ok : α → Bool) (id : α → Int) (l : List α) (k : Nat) : Bool :=
  match l[k]? with
  | none => true
  | some s => ok s && (decide (k = 0) || (match l[k-1]? with | none => true | some r => decide (id r < id s)))
def upTo {α : Type} (ok : α → Bool) (id : α → Int) (l : List α) (k : Nat) : Bool := (List.range k).all (upAt ok id l)
theorem upTo_zero {α : Type} (ok : α → Bool) (id : α → Int) (l : List α) : upTo ok id l 0 = true := rfl
theorem upTo_succ {α : Type} (ok : α → Bool) (id : α → Int) (l : List α) (k : Nat) : upTo ok id l (k + 1) = (upTo ok id l k && upAt ok id l k) := by simp [upTo, List.range_succ, List.all_append]
theorem upTo_not {α : Type} {ok : α → Bool} {id : α → Int} {l : List α} {k n : Nat} (h : upAt ok id l k = false) (hk : k < n) : upTo ok id l n = false := by
  unfold upTo
  rw [Bool.eq_false_iff]
  intro ha
  have := List.all_eq_true.1 ha k (List.mem_range.2 hk)
  rw [h] at this; exact absurd this (by simp)
/-- a list of at most m valid records with rising ids -/
def upL {α : Type} (m : Nat) (ok : α → Bool) (id : α → Int) (l : List α) : Bool := decide (l.length ≤ m) && upTo ok id l l.length
theorem upAt_bad {α : Type} {ok : α → Bool} {id : α → Int} {l : List α} {k : Nat} {s : α} (hs : l[k]? = some s) (h : ok s = false) : upAt ok id l k = false := by unfold upAt; rw [hs]; simp [h]
theorem upAt_first {α : Type} {ok : α → Bool} {id : α → Int} {l : List α} {s : α} (hs : l[0]? = some s) (h : ok s = true) : upAt ok id l 0 = true := by unfold upAt; rw [hs]; simp [h]
theorem upAt_next {α : Type} {ok : α → Bool} {id : α → Int} {l : List α} {k : Nat} {s r : α} (hs : l[k]? = some s) (hr : l[k-1]? = some r) (hk : 0 < k) (h : ok s = true) : upAt ok id l k = decide (id r < id s) := by
  unfold upAt; rw [hs]; simp only [hr, h, Bool.true_and, decide_eq_false (show ¬ k = 0 by omega), Bool.false_or]
theorem upL_len {α : Type} {m : Nat} {ok : α → Bool} {id : α → Int} {l : List α} (h : upL m ok id l = true) : l.length ≤ m := by unfold upL at h; simp only [Bool.and_eq_true, decide_eq_true_eq] at h; exact h.1
theorem upL_ok {α : Type} {m : Nat} {ok : α → Bool} {id : α → Int} {l : List α} (h : upL m ok id l = true) {k : Nat} {s : α} (hs : l[k]? = some s) : ok s = true := by
  unfold upL at h
  simp only [Bool.and_eq_true, decide_eq_true_eq] at h
  have := List.all_eq_true.1 h.2 k (List.mem_range.2 (List.getElem?_eq_some_iff.1 hs).1)
  unfold upAt at this
  rw [hs] at this
  simp only [Bool.and_eq_true] at this
  exact this.1
theorem upL_mem {α : Type} {m : Nat} {ok : α → Bool} {id : α → Int} {l : List α} (h : upL m ok id l = true) {s : α} (hs : s ∈ l) : ok s = true := by
  obtain ⟨k, hk⟩ := List.getElem?_of_mem hs
  exact upL_ok h hk
/-- a loop that goes through a list of records and stops with 'false' at the first that is bad -/
theorem up_loop {α : Type} {ok : α → Bool} {id : α → Int} {l : List α} {R : Type} {no : R} {f : Nat → Unit → (Unit → Option R) → (Unit → Option R) → Option R} {fin : Unit → Option R}
    (step : ∀ k nx s, l[k]? = some s → (ok s = false → f k () nx fin = some no) ∧ (ok s = true → (k = 0 → f k () nx fin = nx ()) ∧ (0 < k → ∀ r, l[k-1]? = some r → (id r < id s → f k () nx fin = nx ()) ∧ (id s ≤ id r → f k () nx fin = some no)))) :
    cntK f l.length 0 () fin = if upTo ok id l l.length then fin () else some no := by
  have key : ∀ m k, k + m = l.length → upTo ok id l k = true → cntK f m k () fin = if upTo ok id l l.length then fin () else some no := by
    intro m
    induction m with
    | zero => intro k hk hu; obtain rfl : k = l.length := by omega
              rw [hu]; rfl
    | succ m ih =>
      intro k hk hu
      have hlt : k < l.length := by omega
      obtain ⟨s, hs, _⟩ := at_lt hlt
      obtain ⟨h1, h2⟩ := step k (fun s' => cntK f m (k + 1) s' fin) s hs
      show f k () _ fin = _
      cases hok : ok s with
      | false => rw [h1 hok, upTo_not (upAt_bad hs hok) hlt]; rfl
      | true =>
        obtain ⟨h3, h4⟩ := h2 hok
        by_cases hk0 : k = 0
        · rw [h3 hk0]
          subst hk0
          exact ih 1 (by omega) (by rw [upTo_succ, hu, upAt_first hs hok]; rfl)
        · obtain ⟨r, hr, _⟩ := at_lt (l := l) (k := k - 1) (by omega)
          obtain ⟨h5, h6⟩ := h4 (by omega) r hr
          by_cases hlt2 : id r < id s
          · rw [h5 hlt2]
            exact ih (k + 1) (by omega) (by rw [upTo_succ, hu, upAt_next hs hr (by omega) hok]; simpa using hlt2)
          · rw [h6 (by omega), upTo_not (by rw [upAt_next hs hr (by omega) hok]; simpa using hlt2) hlt]; rfl
  exact key l.length 0 (by omega) (upTo_zero ok id l)
end Go.Proofs.Ytpbbechgpgnpbaa.QLoop

/- Lists of valid records in strictly rising order of any kind; texts in the order of their bytes. (QOrd) No condition but those of each theorem. -/
namespace Go.Proofs.Ytpbbechgpgnpbaa.QOrd
set_option linter.unusedVariables false
set_option linter.unusedSimpArgs false
open Go.RowKit
open Go.Proofs.Ytpbbechgpgnpbaa.GoP Go.Proofs.Ytpbbechgpgnpbaa.PlainStamp Go.Proofs.Ytpbbechgpgnpbaa.QBase Go.Proofs.Ytpbbechgpgnpbaa.QLoop

/-- texts in the order of their bytes -/
def bl (a b : ByteArray) : Bool := Op.bytesLess a.toList b.toList
theorem bl_self' : ∀ x, Op.bytesLess x x = false
  | [] => rfl
  | a :: x => by
    have h1 : ¬ a < a := fun k => by rw [UInt8.lt_iff_toNat_lt] at k; omega
    simp [Op.bytesLess, h1, bl_self' x]
theorem bl_total' : ∀ x y, x ≠ y → Op.bytesLess x y = !(Op.bytesLess y x)
  | [], [], h => absurd rfl h
  | [], b :: y, _ => by simp [Op.bytesLess]
  | a :: x, [], _ => by simp [Op.bytesLess]
  | a :: x, b :: y, h => by
    by_cases hab : a = b
    · subst hab
      have h1 : ¬ a < a := fun k => by rw [UInt8.lt_iff_toNat_lt] at k; omega
      have := bl_total' x y (fun e => h (by rw [e]))
      simp [Op.bytesLess, h1, this]
    · have hne : a.toNat ≠ b.toNat := fun e => hab (UInt8.toNat_inj.1 e)
      by_cases hlt : a < b
      · have h2 : ¬ b < a := fun k => by rw [UInt8.lt_iff_toNat_lt] at k hlt; omega
        simp [Op.bytesLess, hlt, h2, Ne.symm hab]
      · have h2 : b < a := by rw [UInt8.lt_iff_toNat_lt] at hlt ⊢; omega
        simp [Op.bytesLess, hlt, h2, hab]
theorem bl_trans' : ∀ x y z, Op.bytesLess x y = true → Op.bytesLess y z = true → Op.bytesLess x z = true
  | [], _, [], h1, h2 => by rename_i y; cases y <;> simp [Op.bytesLess] at h1 h2
  | [], _, c :: z, _, _ => by simp [Op.bytesLess]
  | a :: x, [], _, h1, _ => by simp [Op.bytesLess] at h1
  | a :: x, b :: y, [], _, h2 => by simp [Op.bytesLess] at h2
  | a :: x, b :: y, c :: z, h1, h2 => by
    simp only [Op.bytesLess, Bool.or_eq_true, decide_eq_true_eq, Bool.and_eq_true, beq_iff_eq] at h1 h2 ⊢
    rcases h1 with h1 | ⟨rfl, h1⟩
    · rcases h2 with h2 | ⟨rfl, h2⟩
      · left; rw [UInt8.lt_iff_toNat_lt] at h1 h2 ⊢; omega
      · left; exact h1
    · rcases h2 with h2 | ⟨rfl, h2⟩
      · left; exact h2
      · right; exact ⟨rfl, bl_trans' x y z h1 h2⟩
theorem list_inj {a b : ByteArray} (h : a.toList = b.toList) : a = b := by
  rw [Lib.toList_data, Lib.toList_data] at h
  cases a; cases b; congr 1; exact Array.toList_inj.1 h
theorem bl_self (a : ByteArray) : bl a a = false := bl_self' _
theorem bl_total {a b : ByteArray} (h : a ≠ b) : bl a b = !(bl b a) := bl_total' _ _ (fun e => h (list_inj e))
theorem bl_trans {a b c : ByteArray} (h1 : bl a b = true) (h2 : bl b c = true) : bl a c = true := bl_trans' _ _ _ h1 h2
theorem bl_asymm {a b : ByteArray} (h : bl a b = true) : bl b a = false := by
  by_cases e : a = b
  · rw [e]; exact bl_self b
  · rw [bl_total e] at h; simpa using h
theorem bl_ne {a b : ByteArray} (h : bl a b = true) : a ≠ b := fun e => by rw [e, bl_self] at h; exact absurd h (by simp)
/-- 'not above', as the program asks it -/
theorem bl_le (a b : ByteArray) : (Op.bytesLess a.toList b.toList || a.toList == b.toList) = !(bl b a) := by
  by_cases e : a = b
  · subst e; rw [bl_self]; simp
  · have h1 : (a.toList == b.toList) = false := by rw [beq_eq_false_iff_ne]; exact fun h => e (list_inj h)
    rw [h1, Bool.or_false]; exact bl_total e
theorem bl_lt (a b : ByteArray) : Op.bytesLess a.toList b.toList = bl a b := rfl
theorem eq_list (a b : ByteArray) : (a.toList == b.toList) = decide (a = b) := by
  by_cases e : a = b
  · subst e; simp
  · rw [decide_eq_false e, beq_eq_false_iff_ne]; exact fun h => e (list_inj h)

/-- valid, and behind the one ahead of it -/
def riseAt {α : Type} (ok : α → Bool) (lt : α → α → Bool) (l : List α) (k : Nat) : Bool :=
  match l[k]? with
  | none => true
  | some s => ok s && (decide (k = 0) || (match l[k-1]? with | none => true | some r => lt r s))
def riseTo {α : Type} (ok : α → Bool) (lt : α → α → Bool) (l : List α) (k : Nat) : Bool := (List.range k).all (riseAt ok lt l)
theorem riseTo_zero {α : Type} (ok : α → Bool) (lt : α → α → Bool) (l : List α) : riseTo ok lt l 0 = true := rfl
theorem riseTo_succ {α : Type} (ok : α → Bool) (lt : α → α → Bool) (l : List α) (k : Nat) : riseTo ok lt l (k + 1) = (riseTo ok lt l k && riseAt ok lt l k) := by simp [riseTo, List.range_succ, List.all_append]
theorem riseTo_not {α : Type} {ok : α → Bool} {lt : α → α → Bool} {l : List α} {k n : Nat} (h : riseAt ok lt l k = false) (hk : k < n) : riseTo ok lt l n = false := by
  unfold riseTo
  rw [Bool.eq_false_iff]
  intro ha
  have := List.all_eq_true.1 ha k (List.mem_range.2 hk)
  rw [h] at this; exact absurd this (by simp)
def riseL {α : Type} (m : Nat) (ok : α → Bool) (lt : α → α → Bool) (l : List α) : Bool := decide (l.length ≤ m) && riseTo ok lt l l.length
theorem riseAt_bad {α : Type} {ok : α → Bool} {lt : α → α → Bool} {l : List α} {k : Nat} {s : α} (hs : l[k]? = some s) (h : ok s = false) : riseAt ok lt l k = false := by unfold riseAt; rw [hs]; simp [h]
theorem riseAt_first {α : Type} {ok : α → Bool} {lt : α → α → Bool} {l : List α} {s : α} (hs : l[0]? = some s) (h : ok s = true) : riseAt ok lt l 0 = true := by unfold riseAt; rw [hs]; simp [h]
theorem riseAt_next {α : Type} {ok : α → Bool} {lt : α → α → Bool} {l : List α} {k : Nat} {s r : α} (hs : l[k]? = some s) (hr : l[k-1]? = some r) (hk : 0 < k) (h : ok s = true) : riseAt ok lt l k = lt r s := by
  unfold riseAt; rw [hs]; simp only [hr, h, Bool.true_and, decide_eq_false (show ¬ k = 0 by omega), Bool.false_or]
theorem riseL_len {α : Type} {m : Nat} {ok : α → Bool} {lt : α → α → Bool} {l : List α} (h : riseL m ok lt l = true) : l.length ≤ m := by unfold riseL at h; simp only [Bool.and_eq_true, decide_eq_true_eq] at h; exact h.1
theorem riseTo_at {α : Type} {ok : α → Bool} {lt : α → α → Bool} {l : List α} {n : Nat} (h : riseTo ok lt l n = true) {k : Nat} (hk : k < n) : riseAt ok lt l k = true := List.all_eq_true.1 h k (List.mem_range.2 hk)
theorem riseL_ok {α : Type} {m : Nat} {ok : α → Bool} {lt : α → α → Bool} {l : List α} (h : riseL m ok lt l = true) {k : Nat} {s : α} (hs : l[k]? = some s) : ok s = true := by
  unfold riseL at h
  simp only [Bool.and_eq_true, decide_eq_true_eq] at h
  have := riseTo_at h.2 (List.getElem?_eq_some_iff.1 hs).1
  unfold riseAt at this
  rw [hs] at this
  simp only [Bool.and_eq_true] at this
  exact this.1
theorem riseL_mem {α : Type} {m : Nat} {ok : α → Bool} {lt : α → α → Bool} {l : List α} (h : riseL m ok lt l = true) {s : α} (hs : s ∈ l) : ok s = true := by
  obtain ⟨k, hk⟩ := List.getElem?_of_mem hs
  exact riseL_ok h hk
theorem riseL_step {α : Type} {m : Nat} {ok : α → Bool} {lt : α → α → Bool} {l : List α} (h : riseL m ok lt l = true) {k : Nat} {x y : α} (hx : l[k]? = some x) (hy : l[k + 1]? = some y) : lt x y = true := by
  unfold riseL at h
  simp only [Bool.and_eq_true, decide_eq_true_eq] at h
  have := riseTo_at h.2 (List.getElem?_eq_some_iff.1 hy).1
  unfold riseAt at this
  rw [hy] at this
  simp only [Nat.add_sub_cancel, hx, Bool.and_eq_true, Bool.or_eq_true, decide_eq_true_eq] at this
  rcases this.2 with h0 | h0
  · omega
  · exact h0
theorem riseL_lt {α : Type} {m : Nat} {ok : α → Bool} {lt : α → α → Bool} (tr : ∀ a b c, lt a b = true → lt b c = true → lt a c = true) {l : List α} (h : riseL m ok lt l = true) {i j : Nat} {x y : α} (hij : i < j) (hx : l[i]? = some x) (hy : l[j]? = some y) : lt x y = true := by
  obtain ⟨d, rfl⟩ : ∃ d, j = i + d + 1 := ⟨j - i - 1, by omega⟩
  clear hij
  induction d generalizing y with
  | zero => exact riseL_step h hx hy
  | succ d ih =>
    obtain ⟨z, hz, _⟩ := at_lt (l := l) (k := i + d + 1) (by have := (List.getElem?_eq_some_iff.1 hy).1; omega)
    exact tr _ _ _ (ih hz) (riseL_step (k := i + d + 1) h hz (by rw [← hy]; rfl))
/-- a loop that goes through a list of records and stops with 'no' at the first that is bad -/
theorem rise_loop {α : Type} {ok : α → Bool} {lt : α → α → Bool} {l : List α} {R : Type} {no : R} {f : Nat → Unit → (Unit → Option R) → (Unit → Option R) → Option R} {fin : Unit → Option R}
    (step : ∀ k nx s, l[k]? = some s → (ok s = false → f k () nx fin = some no) ∧ (ok s = true → (k = 0 → f k () nx fin = nx ()) ∧ (0 < k → ∀ r, l[k-1]? = some r → (lt r s = true → f k () nx fin = nx ()) ∧ (lt r s = false → f k () nx fin = some no)))) :
    cntK f l.length 0 () fin = if riseTo ok lt l l.length then fin () else some no := by
  have key : ∀ m k, k + m = l.length → riseTo ok lt l k = true → cntK f m k () fin = if riseTo ok lt l l.length then fin () else some no := by
    intro m
    induction m with
    | zero => intro k hk hu; obtain rfl : k = l.length := by omega
              rw [hu]; rfl
    | succ m ih =>
      intro k hk hu
      have hlt : k < l.length := by omega
      obtain ⟨s, hs, _⟩ := at_lt hlt
      obtain ⟨h1, h2⟩ := step k (fun s' => cntK f m (k + 1) s' fin) s hs
      show f k () _ fin = _
      cases hok : ok s with
      | false => rw [h1 hok, riseTo_not (riseAt_bad hs hok) hlt]; rfl
      | true =>
        obtain ⟨h3, h4⟩ := h2 hok
        by_cases hk0 : k = 0
        · rw [h3 hk0]
          subst hk0
          exact ih 1 (by omega) (by rw [riseTo_succ, hu, riseAt_first hs hok]; rfl)
        · obtain ⟨r, hr, _⟩ := at_lt (l := l) (k := k - 1) (by omega)
          obtain ⟨h5, h6⟩ := h4 (by omega) r hr
          cases hl : lt r s with
          | true =>
            rw [h5 hl]
            exact ih (k + 1) (by omega) (by rw [riseTo_succ, hu, riseAt_next hs hr (by omega) hok, hl]; rfl)
          | false => rw [h6 hl, riseTo_not (by rw [riseAt_next hs hr (by omega) hok, hl]) hlt]; rfl
  exact key l.length 0 (by omega) (riseTo_zero ok lt l)
end Go.Proofs.Ytpbbechgpgnpbaa.QOrd

/- loop.example/g01062/impl.HueDistance as a plain function, and the contract of the program's: where the plain one has an answer, the program has it. Conditions: slices read as lists. -/
namespace Go.Proofs.Ytpbbechgpgnpbaa.GiHueDistance
set_option linter.unusedVariables false
set_option linter.unusedSimpArgs false
open Go.RowKit
open Go.Proofs.Ytpbbechgpgnpbaa.Rowed Go.Proofs.Ytpbbechgpgnpbaa.Turn Go.Proofs.Ytpbbechgpgnpbaa.Aid Go.Proofs.Ytpbbechgpgnpbaa.GoP Go.Proofs.Ytpbbechgpgnpbaa.GoM

def P (a : Int) (b : Int) : Option (Int × Bool) :=
  Option.bind (Go.Proofs.Ytpbbechgpgnpbaa.GiIsHue.P a) fun (t_3 : Bool) =>
  letK (!t_3) fun (t_4 : Bool) =>
  joinK (fun (t_9 : Bool) =>
  iteK t_9
  (some (0, false))
  (Option.bind (Go.Proofs.Ytpbbechgpgnpbaa.GiLoHueDistance.P a b) fun (t_14 : Int) =>
  some (t_14, true))) fun jt_9 => iteK t_4 (appK jt_9 true) (Option.bind (Go.Proofs.Ytpbbechgpgnpbaa.GiIsHue.P b) fun (t_7 : Bool) =>
  letK (!t_7) fun (t_8 : Bool) =>
  appK jt_9 t_8)

set_option maxRecDepth 100000 in
set_option maxHeartbeats 2000000 in
theorem C (a : Int) (b : Int)   (w : World)   {r0 : Int} {r1 : Bool} (H : Hid (P a b = some (r0, r1))) :
    Calls Try.prog 25 #[.int .i64 a, .int .i64 b] w (Gives (.tuple #[.int .i64 r0, .bool r1]) w) := by
  have HB := Lib.hid (Below.refl w.heap.size w)
  unfold P at H
  go_enter Try.func25, Try.ntmps25
  replace H := bind_hid H
  obtain ⟨t_3, qt_3, H⟩ := H
  go_wp2_with fail
  go_at_call 57
  refine (Go.Proofs.Ytpbbechgpgnpbaa.GiIsHue.C (a)  _    qt_3).mono ?_
  rintro e_t_3 wt_3 ⟨rfl, bt_3⟩
  have HBwt_3 := Lib.hid (Below.step HB.out bt_3)
  clear bt_3
  cases t_3 with
  | false =>
    replace H := let_hid H
    obtain ⟨t_4, ht_4, H⟩ := H
    obtain rfl : t_4 = true := ht_4.symm
    replace H := join_hid H
    replace H := ite_t H
    replace H := app_hid H
    replace H := ite_t H
    cases ret_hid H
    go_wp2_with fail
    go_ret2
    exact ⟨rfl, HBwt_3.out⟩
  | true =>
    replace H := let_hid H
    obtain ⟨t_4, ht_4, H⟩ := H
    obtain rfl : t_4 = false := ht_4.symm
    replace H := join_hid H
    replace H := ite_f H
    replace H := bind_hid H
    obtain ⟨t_7, qt_7, H⟩ := H
    go_wp2_with fail
    go_at_call 57
    refine (Go.Proofs.Ytpbbechgpgnpbaa.GiIsHue.C (b)  _    qt_7).mono ?_
    rintro e_t_7 wt_7 ⟨rfl, bt_7⟩
    have HBwt_7 := Lib.hid (Below.step HBwt_3.out bt_7)
    clear bt_7
    cases t_7 with
    | false =>
      replace H := let_hid H
      obtain ⟨t_8, ht_8, H⟩ := H
      obtain rfl : t_8 = true := ht_8.symm
      replace H := app_hid H
      replace H := ite_t H
      cases ret_hid H
      go_wp2_with fail
      go_ret2
      exact ⟨rfl, HBwt_7.out⟩
    | true =>
      replace H := let_hid H
      obtain ⟨t_8, ht_8, H⟩ := H
      obtain rfl : t_8 = false := ht_8.symm
      replace H := app_hid H
      replace H := ite_f H
      replace H := bind_hid H
      obtain ⟨t_14, qt_14, H⟩ := H
      go_wp2_with fail
      go_at_call 66
      refine (Go.Proofs.Ytpbbechgpgnpbaa.GiLoHueDistance.C (a) (b)  _    qt_14).mono ?_
      rintro e_t_14 wt_14 ⟨rfl, bt_14⟩
      have HBwt_14 := Lib.hid (Below.step HBwt_7.out bt_14)
      clear bt_14
      cases ret_hid H
      go_wp2_with fail
      go_ret2
      exact ⟨rfl, HBwt_14.out⟩
end Go.Proofs.Ytpbbechgpgnpbaa.GiHueDistance

/- loop.example/g01062/spec.HueDistance as a plain function, and the contract of the program's: where the plain one has an answer, the program has it. Conditions: slices read as lists. -/
namespace Go.Proofs.Ytpbbechgpgnpbaa.GsHueDistance
set_option linter.unusedVariables false
set_option linter.unusedSimpArgs false
open Go.RowKit
open Go.Proofs.Ytpbbechgpgnpbaa.Rowed Go.Proofs.Ytpbbechgpgnpbaa.Turn Go.Proofs.Ytpbbechgpgnpbaa.Aid Go.Proofs.Ytpbbechgpgnpbaa.GoP Go.Proofs.Ytpbbechgpgnpbaa.GoM

def P (a : Int) (b : Int) : Option (Int × Bool) :=
  Option.bind (Go.Proofs.Ytpbbechgpgnpbaa.GsL7Hue.P a) fun (t_3 : Bool) =>
  letK (!t_3) fun (t_4 : Bool) =>
  joinK (fun (t_9 : Bool) =>
  iteK t_9
  (some (0, false))
  (Option.bind (Go.Proofs.Ytpbbechgpgnpbaa.GsL7Far.P a b) fun (t_14 : Int) =>
  some (t_14, true))) fun jt_9 => iteK t_4 (appK jt_9 true) (Option.bind (Go.Proofs.Ytpbbechgpgnpbaa.GsL7Hue.P b) fun (t_7 : Bool) =>
  letK (!t_7) fun (t_8 : Bool) =>
  appK jt_9 t_8)

set_option maxRecDepth 100000 in
set_option maxHeartbeats 2000000 in
theorem C (a : Int) (b : Int)   (w : World)   {r0 : Int} {r1 : Bool} (H : Hid (P a b = some (r0, r1))) :
    Calls Try.prog 24 #[.int .i64 a, .int .i64 b] w (Gives (.tuple #[.int .i64 r0, .bool r1]) w) := by
  have HB := Lib.hid (Below.refl w.heap.size w)
  unfold P at H
  go_enter Try.func24, Try.ntmps24
  replace H := bind_hid H
  obtain ⟨t_3, qt_3, H⟩ := H
  go_wp2_with fail
  go_at_call 64
  refine (Go.Proofs.Ytpbbechgpgnpbaa.GsL7Hue.C (a)  _    qt_3).mono ?_
  rintro e_t_3 wt_3 ⟨rfl, bt_3⟩
  have HBwt_3 := Lib.hid (Below.step HB.out bt_3)
  clear bt_3
  cases t_3 with
  | false =>
    replace H := let_hid H
    obtain ⟨t_4, ht_4, H⟩ := H
    obtain rfl : t_4 = true := ht_4.symm
    replace H := join_hid H
    replace H := ite_t H
    replace H := app_hid H
    replace H := ite_t H
    cases ret_hid H
    go_wp2_with fail
    go_ret2
    exact ⟨rfl, HBwt_3.out⟩
  | true =>
    replace H := let_hid H
    obtain ⟨t_4, ht_4, H⟩ := H
    obtain rfl : t_4 = false := ht_4.symm
    replace H := join_hid H
    replace H := ite_f H
    replace H := bind_hid H
    obtain ⟨t_7, qt_7, H⟩ := H
    go_wp2_with fail
    go_at_call 64
    refine (Go.Proofs.Ytpbbechgpgnpbaa.GsL7Hue.C (b)  _    qt_7).mono ?_
    rintro e_t_7 wt_7 ⟨rfl, bt_7⟩
    have HBwt_7 := Lib.hid (Below.step HBwt_3.out bt_7)
    clear bt_7
    cases t_7 with
    | false =>
      replace H := let_hid H
      obtain ⟨t_8, ht_8, H⟩ := H
      obtain rfl : t_8 = true := ht_8.symm
      replace H := app_hid H
      replace H := ite_t H
      cases ret_hid H
      go_wp2_with fail
      go_ret2
      exact ⟨rfl, HBwt_7.out⟩
    | true =>
      replace H := let_hid H
      obtain ⟨t_8, ht_8, H⟩ := H
      obtain rfl : t_8 = false := ht_8.symm
      replace H := app_hid H
      replace H := ite_f H
      replace H := bind_hid H
      obtain ⟨t_14, qt_14, H⟩ := H
      go_wp2_with fail
      go_at_call 65
      refine (Go.Proofs.Ytpbbechgpgnpbaa.GsL7Far.C (a) (b)  _    qt_14).mono ?_
      rintro e_t_14 wt_14 ⟨rfl, bt_14⟩
      have HBwt_14 := Lib.hid (Below.step HBwt_7.out bt_14)
      clear bt_14
      cases ret_hid H
      go_wp2_with fail
      go_ret2
      exact ⟨rfl, HBwt_14.out⟩
end Go.Proofs.Ytpbbechgpgnpbaa.GsHueDistance

/- Chapter 7: hues and shades: the plain functions of the program and of the reference agree, and the laws answer true. (Q7Hue) No condition but those of each theorem. -/
namespace Go.Proofs.Ytpbbechgpgnpbaa.Q7Hue
set_option linter.unusedVariables false
set_option linter.unusedSimpArgs false
open Go.RowKit
open Go.Proofs.Ytpbbechgpgnpbaa.GoP Go.Proofs.Ytpbbechgpgnpbaa.PlainStamp Go.Proofs.Ytpbbechgpgnpbaa.QBase Go.Proofs.Ytpbbechgpgnpbaa.QLoop

def far (a b : Int) : Int := min (max (a - b) (b - a)) (360 - max (a - b) (b - a))
theorem isHue_eq (h : Int) : GiIsHue.P h = some (inB h 0 359) := by simp only [GiIsHue.P, within_eq, Option.bind_some]
theorem l7Hue_eq (h : Int) : GsL7Hue.P h = some (inB h 0 359) := by simp only [GsL7Hue.P, l1In_eq, Option.bind_some]
theorem most_eq (a b : Int) : GsL1Most.P a b = some (max a b) := by
  simp only [GsL1Most.P, letK, iteK_if]
  by_cases h : b < a
  · rw [if_pos (by simpa using h)]; congr 1; omega
  · rw [if_neg (by simpa using h)]; congr 1; omega
theorem least_eq (a b : Int) : GsL1Least.P a b = some (min a b) := by
  simp only [GsL1Least.P, letK, iteK_if]
  by_cases h : a < b
  · rw [if_pos (by simpa using h)]; congr 1; omega
  · rw [if_neg (by simpa using h)]; congr 1; omega
theorem circle_eq {n : Int} (h1 : -360 ≤ n) (h2 : n ≤ 719) : GiOnCircle.P n = some ((n + 360) % 360) := by
  simp only [GiOnCircle.P, letK]
  rw [wrap_in (by omega) (by omega), Int.tmod_eq_emod_of_nonneg (by omega)]
theorem up_eq {a b : Int} (ha : 0 ≤ a ∧ a ≤ 359) (hb : 0 ≤ b ∧ b ≤ 359) : GiUpwards.P a b = some ((b - a + 360) % 360) := by
  simp only [GiUpwards.P, letK]
  rw [wrap_in (by omega) (by omega), circle_eq (by omega) (by omega)]; rfl
theorem dist_eq {a b : Int} (ha : 0 ≤ a ∧ a ≤ 359) (hb : 0 ≤ b ∧ b ≤ 359) : GiLoHueDistance.P a b = some (far a b) := by
  simp only [GiLoHueDistance.P, up_eq ha hb, up_eq hb ha, Option.bind_some, letK, far]
  congr 1; omega
theorem l7Far_eq {a b : Int} (ha : 0 ≤ a ∧ a ≤ 359) (hb : 0 ≤ b ∧ b ≤ 359) : GsL7Far.P a b = some (far a b) := by
  simp only [GsL7Far.P, most_eq, least_eq, Option.bind_some, letK]
  rw [wrap_in (x := a - b) (by omega) (by omega), wrap_in (x := b - a) (by omega) (by omega), wrap_in (by omega) (by omega)]; rfl
def hueRes (a b : Int) : Int × Bool := if (inB a 0 359 && inB b 0 359) = true then (far a b, true) else (0, false)
theorem hue_impl (a b : Int) : GiHueDistance.P a b = some (hueRes a b) := by
  simp only [GiHueDistance.P, isHue_eq, Option.bind_some, letK, joinK, appK, iteK_if, hueRes]
  cases ha : inB a 0 359 with
  | false => simp
  | true =>
    cases hb : inB b 0 359 with
    | false => simp
    | true => simp [dist_eq (inB_of ha) (inB_of hb)]
theorem hue_spec (a b : Int) : GsHueDistance.P a b = some (hueRes a b) := by
  simp only [GsHueDistance.P, l7Hue_eq, Option.bind_some, letK, joinK, appK, iteK_if, hueRes]
  cases ha : inB a 0 359 with
  | false => simp
  | true =>
    cases hb : inB b 0 359 with
    | false => simp
    | true => simp [l7Far_eq (inB_of ha) (inB_of hb)]
end Go.Proofs.Ytpbbechgpgnpbaa.Q7Hue

/- Words: the tests of a word of the program and of the reference as plain functions. (QWord) No condition but those of each theorem. -/
namespace Go.Proofs.Ytpbbechgpgnpbaa.QWord
set_option linter.unusedVariables false
set_option linter.unusedSimpArgs false
open Go.RowKit
open Go.Proofs.Ytpbbechgpgnpbaa.GoP Go.Proofs.Ytpbbechgpgnpbaa.PlainStamp Go.Proofs.Ytpbbechgpgnpbaa.QBase Go.Proofs.Ytpbbechgpgnpbaa.QLoop

def small (b : UInt8) : Bool := decide (97 ≤ b.toNat ∧ b.toNat ≤ 122)
def wordB (s : ByteArray) : Bool := inB (s.size : Int) 1 10 && s.toList.all small
theorem size_list (s : ByteArray) : s.toList.length = s.size := by rw [Lib.toList_data]; rfl
theorem isLetter_eq (b : UInt8) : GiIsLetter.P (b.toNat : Int) = some (small b) := by
  simp only [GiIsLetter.P, letK, joinK, appK, iteK_if]
  unfold small
  by_cases h1 : 97 ≤ b.toNat
  · by_cases h2 : b.toNat ≤ 122
    · simp [h1, h2, show (97 : Int) ≤ b.toNat by omega, show (b.toNat : Int) ≤ 122 by omega]
    · simp [h1, h2, show (97 : Int) ≤ b.toNat by omega, show ¬ (b.toNat : Int) ≤ 122 by omega]
  · simp [h1, show ¬ (97 : Int) ≤ b.toNat by omega]
theorem isWord_eq (s : ByteArray) : GiIsWord.P s = some (wordB s) := by
  cases hb : inB (s.size : Int) 1 10 with
  | false => simp only [GiIsWord.P, within_eq, hb, Option.bind_some, letK, iteK_if, wordB]; rfl
  | true =>
    have h := inB_of hb
    simp only [GiIsWord.P, within_eq, hb, Option.bind_some, letK, iteK_if]
    rw [if_neg (by simp), guardK_pos (by omega)]
    refine cnt_is _ (fun k _ => (s.toList.take k).all small = true) ?_ ?_ () rfl
    · intro k u nx hk hI hn
      obtain ⟨y, hy, hi⟩ := at_lt (l := s.toList) (k := k) (by rw [size_list]; exact hk)
      simp only [GiIsWord.l0, hi, Option.bind_some, letK, joinK, appK, iteK_if, isLetter_eq]
      cases hs : small y with
      | false =>
        have : wordB s = false := by unfold wordB; rw [not_all hy hs, Bool.and_false]
        simp [this]
      | true => exact hn () (by rw [all_next hy, hI, hs]; rfl)
    · intro u hI
      rw [List.take_of_length_le (by rw [size_list]; exact Nat.le_refl _)] at hI
      simp [GiIsWord.e0, wordB, hb, hI]
theorem l2Word_eq (s : ByteArray) (hz : s.size ≤ 9223372036854775807) : GsL2Word.P s = some (wordB s) := by
  simp only [GsL2Word.P]
  rw [guardK_pos hz]
  refine cnt_is _ (fun k _ => (s.toList.take k).all small = true) ?_ ?_ () rfl
  · intro k u nx hk hI hn
    obtain ⟨y, hy, hi⟩ := at_lt (l := s.toList) (k := k) (by rw [size_list]; exact hk)
    simp only [GsL2Word.l0, hi, Option.bind_some, letK, joinK, appK, iteK_if]
    by_cases h1 : (y.toNat : Int) < 97
    · have : wordB s = false := by unfold wordB; rw [not_all hy (by unfold small; simp; omega), Bool.and_false]
      simp [h1, this]
    · by_cases h2 : (122 : Int) < (y.toNat : Int)
      · have : wordB s = false := by unfold wordB; rw [not_all hy (by unfold small; simp; omega), Bool.and_false]
        simp [h1, h2, this]
      · simp [h1, h2]
        exact hn () (by rw [all_next hy, hI]; unfold small; simp; omega)
  · intro u hI
    rw [List.take_of_length_le (by rw [size_list]; exact Nat.le_refl _)] at hI
    simp [GsL2Word.e0, wordB, l1In_eq, hI]
theorem word_len {s : ByteArray} (h : wordB s = true) : 1 ≤ s.size ∧ s.size ≤ 10 := by
  unfold wordB at h
  simp only [Bool.and_eq_true] at h
  have := inB_of h.1; omega
end Go.Proofs.Ytpbbechgpgnpbaa.QWord

/- Chapter 7: hues and shades: the plain functions of the program and of the reference agree, and the laws answer true. (Q7Shade) No condition but those of each theorem. -/
namespace Go.Proofs.Ytpbbechgpgnpbaa.Q7Shade
set_option linter.unusedVariables false
set_option linter.unusedSimpArgs false
open Go.RowKit
open Go.Proofs.Ytpbbechgpgnpbaa.GoP Go.Proofs.Ytpbbechgpgnpbaa.PlainStamp Go.Proofs.Ytpbbechgpgnpbaa.QBase Go.Proofs.Ytpbbechgpgnpbaa.Q7Hue Go.Proofs.Ytpbbechgpgnpbaa.QWord Go.Proofs.Ytpbbechgpgnpbaa.QOrd Go.Proofs.Ytpbbechgpgnpbaa.QLoop Go.Proofs.Ytpbbechgpgnpbaa.PShade

theorem isLight_eq (h : Int) : GiIsLightness.P h = some (inB h 0 100) := by simp only [GiIsLightness.P, within_eq, Option.bind_some]
def okSh (x : Shade) : Bool := wordB x.name && inB x.hue 0 359 && inB x.width 0 179 && inB x.dark 0 100 && inB x.light 0 100 && decide (x.dark ≤ x.light)
theorem fits_name {x : Shade} (h : x.fits) : x.name.size ≤ 9223372036854775807 := h.1
theorem isShade_eq (x : Shade) : GiIsShade.P x = some (okSh x) := by
  obtain ⟨a, b, c, d, e⟩ := x
  simp only [GiIsShade.P, unShade, isWord_eq, isHue_eq, isLight_eq, within_eq, Option.bind_some, letK, joinK, appK, iteK_if, okSh]
  cases wordB a <;> cases inB b 0 359 <;> cases inB c 0 179 <;> cases inB d 0 100 <;> cases inB e 0 100 <;> simp
theorem l7One_eq (x : Shade) (h : x.fits) : GsL7One.P x = some (okSh x) := by
  have hz := fits_name h
  obtain ⟨a, b, c, d, e⟩ := x
  have hx : (inB e 0 100 && inB d 0 e) = (inB d 0 100 && inB e 0 100 && decide (d ≤ e)) := by unfold inB; rw [Bool.eq_iff_iff]; simp; omega
  simp only [GsL7One.P, unShade, l2Word_eq a hz, l7Hue_eq, l1In_eq, Option.bind_some, letK, joinK, appK, iteK_if, okSh]
  have hy : (wordB a && inB b 0 359 && inB c 0 179 && inB d 0 100 && inB e 0 100 && decide (d ≤ e)) = (wordB a && inB b 0 359 && inB c 0 179 && (inB e 0 100 && inB d 0 e)) := by rw [hx]; simp [Bool.and_assoc]
  rw [hy]
  cases wordB a <;> cases inB b 0 359 <;> cases inB c 0 179 <;> cases inB e 0 100 <;> simp
theorem okSh_of {x : Shade} (h : okSh x = true) : (0 ≤ x.hue ∧ x.hue ≤ 359) ∧ (0 ≤ x.width ∧ x.width ≤ 179) ∧ (0 ≤ x.dark ∧ x.dark ≤ 100) ∧ (0 ≤ x.light ∧ x.light ≤ 100) ∧ x.dark ≤ x.light ∧ wordB x.name = true := by
  unfold okSh at h
  simp only [Bool.and_eq_true, decide_eq_true_eq] at h
  exact ⟨inB_of h.1.1.1.1.2, inB_of h.1.1.1.2, inB_of h.1.1.2, inB_of h.1.2, h.2, h.1.1.1.1.1⟩
end Go.Proofs.Ytpbbechgpgnpbaa.Q7Shade

/- Chapter 7: hues and shades: the plain functions of the program and of the reference agree, and the laws answer true. (Q7List) No condition but those of each theorem. -/
namespace Go.Proofs.Ytpbbechgpgnpbaa.Q7List
set_option linter.unusedVariables false
set_option linter.unusedSimpArgs false
open Go.RowKit
open Go.Proofs.Ytpbbechgpgnpbaa.GoP Go.Proofs.Ytpbbechgpgnpbaa.PlainStamp Go.Proofs.Ytpbbechgpgnpbaa.QBase Go.Proofs.Ytpbbechgpgnpbaa.Q7Shade Go.Proofs.Ytpbbechgpgnpbaa.QOrd Go.Proofs.Ytpbbechgpgnpbaa.QLoop Go.Proofs.Ytpbbechgpgnpbaa.PShade

def nameLt (r s : Shade) : Bool := bl r.name s.name
def okShs (l : List Shade) : Bool := riseL 12 okSh nameLt l
theorem areShades_eq (l : List Shade) (hl : l.length ≤ 9223372036854775807) : GiAreShades.P l = some (okShs l) := by
  simp only [GiAreShades.P, GiAreByKeyShadeStringiIsShadeiNameOfShade.P, letK, iteK_if]
  by_cases h12 : l.length ≤ 12
  · rw [if_neg (by simp; omega), rise_loop (ok := okSh) (lt := nameLt) (no := false)]
    · unfold okShs riseL; cases riseTo okSh nameLt l l.length <;> simp [h12, GiAreByKeyShadeStringiIsShadeiNameOfShade.e0]
    · intro k nx s hs
      have hi : idx l (k : Int) = some s := by rw [idx_nat, hs]
      have hk : k < l.length := (List.getElem?_eq_some_iff.1 hs).1
      simp only [GiAreByKeyShadeStringiIsShadeiNameOfShade.l0, hi, Option.bind_some, unShade, isShade_eq, GiNameOfShade.P, letK, joinK, appK, iteK_if, bl_le]
      refine ⟨fun h => by simp [h], fun h => ⟨fun h0 => by subst h0; simp [h], fun h0 r hr => ?_⟩⟩
      rw [idx_pred h0 (by omega) hr]
      have hk0 : (0 : Int) < (k : Int) := by omega
      have hk1 : ¬ k = 0 := by omega
      exact ⟨fun hlt => by (have hc : bl r.name s.name = true := hlt); simp [h, hk0, hk1, hc], fun hge => by (have hc : bl r.name s.name = false := hge); simp [h, hk0, hk1, hc]⟩
  · rw [if_pos (by simp; omega)]; unfold okShs riseL; simp [h12]
theorem l7Good_eq (l : List Shade) (hf : ∀ s ∈ l, s.fits) (hl : l.length ≤ 9223372036854775807) : GsL7Good.P l = some (okShs l) := by
  simp only [GsL7Good.P]
  rw [rise_loop (ok := okSh) (lt := nameLt) (no := false)]
  · unfold okShs riseL; cases riseTo okSh nameLt l l.length <;> simp [GsL7Good.e0, letK]; omega
  · intro k nx s hs
    have hi : idx l (k : Int) = some s := by rw [idx_nat, hs]
    have hk : k < l.length := (List.getElem?_eq_some_iff.1 hs).1
    have hm := hf s (List.mem_of_getElem? hs)
    have h1 := l7One_eq s hm
    simp only [GsL7Good.l0, hi, Option.bind_some, unShade, h1, letK, joinK, appK, iteK_if, bl_lt]
    refine ⟨fun h => by simp [h], fun h => ⟨fun h0 => by subst h0; simp [h], fun h0 r hr => ?_⟩⟩
    rw [idx_pred h0 (by omega) hr]
    have hk0 : (0 : Int) < (k : Int) := by omega
    have hk1 : ¬ k = 0 := by omega
    exact ⟨fun hlt => by (have hc : bl r.name s.name = true := hlt); simp [h, hk0, hk1, hc], fun hge => by (have hc : bl r.name s.name = false := hge); simp [h, hk0, hk1, hc]⟩
theorem shs_mem {l : List Shade} (h : okShs l = true) {x : Shade} (hx : x ∈ l) : okSh x = true := riseL_mem h hx
end Go.Proofs.Ytpbbechgpgnpbaa.Q7List

/- Chapter 7: hues and shades: the plain functions of the program and of the reference agree, and the laws answer true. (Q7Takes) No condition but those of each theorem. -/
namespace Go.Proofs.Ytpbbechgpgnpbaa.Q7Takes
set_option linter.unusedVariables false
set_option linter.unusedSimpArgs false
open Go.RowKit
open Go.Proofs.Ytpbbechgpgnpbaa.GoP Go.Proofs.Ytpbbechgpgnpbaa.PlainStamp Go.Proofs.Ytpbbechgpgnpbaa.QBase Go.Proofs.Ytpbbechgpgnpbaa.Q7List Go.Proofs.Ytpbbechgpgnpbaa.Q7Shade Go.Proofs.Ytpbbechgpgnpbaa.Q7Hue Go.Proofs.Ytpbbechgpgnpbaa.QLoop Go.Proofs.Ytpbbechgpgnpbaa.PShade

def takesB (x : Shade) (hue light : Int) : Bool := decide (far x.hue hue ≤ x.width) && inB light x.dark x.light
theorem takesIn_eq {x : Shade} {hue : Int} (light : Int) (hx : okSh x = true) (hh : 0 ≤ hue ∧ hue ≤ 359) : GiTakesIn.P x hue light = some (takesB x hue light) := by
  have h1 := okSh_of hx
  obtain ⟨a, b, c, d, e⟩ := x
  dsimp only at h1
  simp only [GiTakesIn.P, unShade, dist_eq h1.1 hh, within_eq, Option.bind_some, letK, joinK, appK, iteK_if, takesB]
  by_cases h : far b hue ≤ c <;> simp [h]
theorem l7Takes_eq {x : Shade} {hue : Int} (light : Int) (hx : okSh x = true) (hh : 0 ≤ hue ∧ hue ≤ 359) : GsL7Takes.P x hue light = some (takesB x hue light) := by
  have h1 := okSh_of hx
  obtain ⟨a, b, c, d, e⟩ := x
  dsimp only at h1
  simp only [GsL7Takes.P, unShade, l7Far_eq h1.1 hh, l1In_eq, Option.bind_some, letK, joinK, appK, iteK_if, takesB]
  by_cases h : far b hue ≤ c <;> simp [h]
theorem canLook_eq (l : List Shade) (hue light : Int) (hl : l.length ≤ 9223372036854775807) : GiCanLook.P l hue light = some (okShs l && inB hue 0 359 && inB light 0 100) := by
  simp only [GiCanLook.P, areShades_eq l hl, isHue_eq, isLight_eq, Option.bind_some, joinK, appK, iteK_if]
  cases okShs l <;> cases inB hue 0 359 <;> simp
end Go.Proofs.Ytpbbechgpgnpbaa.Q7Takes

/- A loop that gathers what a test lets through: the plain loop's answer. (QGath) No condition but those of each theorem. -/
namespace Go.Proofs.Ytpbbechgpgnpbaa.QGath
set_option linter.unusedVariables false
open Go.RowKit
open Go.Proofs.Ytpbbechgpgnpbaa.GoP Go.Proofs.Ytpbbechgpgnpbaa.QBase Go.Proofs.Ytpbbechgpgnpbaa.QLoop

theorem gather {α β R : Type} {l : List α} {p : α → Bool} {g : α → β} {f : Nat → List β → (List β → Option R) → (List β → Option R) → Option R} {fin : List β → Option R} (hl : l.length ≤ 1099511627776)
    (step : ∀ k nx x s, l[k]? = some x → s.length ≤ 1099511627776 → f k s nx fin = nx (if p x then s ++ [g x] else s)) : cntK f l.length 0 [] fin = fin ((l.filter p).map g) := by
  have key : ∀ m k, k + m = l.length → cntK f m k (((l.take k).filter p).map g) fin = fin ((l.filter p).map g) := by
    intro m
    induction m with
    | zero => intro k hk; obtain rfl : k = l.length := by omega
              rw [List.take_of_length_le (Nat.le_refl _)]; rfl
    | succ m ih =>
      intro k hk
      obtain ⟨x, hx, _⟩ := at_lt (l := l) (k := k) (by omega)
      show f k _ _ fin = _
      have hle : (((l.take k).filter p).map g).length ≤ 1099511627776 := by
        rw [List.length_map]
        have := List.length_filter_le p (l.take k)
        rw [List.length_take] at this
        omega
      rw [step k _ x _ hx hle, ← ih (k + 1) (by omega), take_next hx, List.filter_append, List.map_append]
      cases hp : p x <;> simp [List.filter, hp]
  exact key l.length 0 (by omega)
end Go.Proofs.Ytpbbechgpgnpbaa.QGath

/- Chapter 7: hues and shades: the plain functions of the program and of the reference agree, and the laws answer true. (Q7Of) No condition but those of each theorem. -/
namespace Go.Proofs.Ytpbbechgpgnpbaa.Q7Of
set_option linter.unusedVariables false
set_option linter.unusedSimpArgs false
open Go.RowKit
open Go.Proofs.Ytpbbechgpgnpbaa.GoP Go.Proofs.Ytpbbechgpgnpbaa.PlainStamp Go.Proofs.Ytpbbechgpgnpbaa.QBase Go.Proofs.Ytpbbechgpgnpbaa.QOrd Go.Proofs.Ytpbbechgpgnpbaa.Q7Takes Go.Proofs.Ytpbbechgpgnpbaa.Q7List Go.Proofs.Ytpbbechgpgnpbaa.Q7Shade Go.Proofs.Ytpbbechgpgnpbaa.Q7Hue Go.Proofs.Ytpbbechgpgnpbaa.QGath Go.Proofs.Ytpbbechgpgnpbaa.QLoop Go.Proofs.Ytpbbechgpgnpbaa.PShade

def ofRes (l : List Shade) (hue light : Int) : List ByteArray × Bool := if (okShs l && inB hue 0 359 && inB light 0 100) = true then ((l.filter fun x => takesB x hue light).map Shade.name, true) else ([], false)
theorem of_len (l : List Shade) (hue light : Int) : (ofRes l hue light).1.length ≤ 12 := by
  unfold ofRes
  split
  · rename_i h
    simp only [Bool.and_eq_true] at h
    have := riseL_len h.1.1
    have h2 := List.length_filter_le (fun x => takesB x hue light) l
    rw [List.length_map]; omega
  · simp
theorem of_impl (l : List Shade) (hue light : Int) (hl : l.length ≤ 9223372036854775807) : GiShadesOf.P l hue light = some (ofRes l hue light) := by
  simp only [GiShadesOf.P, canLook_eq l hue light hl, Option.bind_some, letK, iteK_if, ofRes]
  cases hc : okShs l && inB hue 0 359 && inB light 0 100 with
  | false => simp
  | true =>
    simp only [Bool.and_eq_true] at hc
    have h12 := riseL_len hc.1.1
    have hh := inB_of hc.1.2
    simp only [Bool.not_true, Bool.false_eq_true, if_false, if_true, GiKeysWhereShadeStringiNameOfShadeiShadesOf1.P]
    rw [gather (p := fun x => takesB x hue light) (g := Shade.name) (by omega)]
    · rfl
    · intro k nx x s hx hs
      have hi : idx l (k : Int) = some x := by rw [idx_nat, hx]
      have hok := shs_mem hc.1.1 (List.mem_of_getElem? hx)
      simp only [GiKeysWhereShadeStringiNameOfShadeiShadesOf1.l0, letK, hi, Option.bind_some, unShade, GiShadesOf1.P, takesIn_eq light hok hh, GiNameOfShade.P, appK, iteK_if]
      rw [guardK_pos hs]
      cases takesB x hue light <;> rfl
theorem of_spec (l : List Shade) (hue light : Int) (hf : ∀ s ∈ l, s.fits) (hl : l.length ≤ 9223372036854775807) : GsShadesOf.P l hue light = some (ofRes l hue light) := by
  simp only [GsShadesOf.P, l7Good_eq l hf hl, l7Hue_eq, l1In_eq, Option.bind_some, letK, joinK, appK, iteK_if, ofRes]
  cases hc1 : okShs l with
  | false => simp
  | true =>
    cases hc2 : inB hue 0 359 with
    | false => simp
    | true =>
      cases hc3 : inB light 0 100 with
      | false => simp
      | true =>
        have h12 := riseL_len hc1
        have hh := inB_of hc2
        simp only [Bool.not_true, Bool.and_true, Bool.false_eq_true, if_false, if_true]
        rw [gather (p := fun x => takesB x hue light) (g := Shade.name) (by omega)]
        · rfl
        · intro k nx x s hx hs
          have hi : idx l (k : Int) = some x := by rw [idx_nat, hx]
          have hok := shs_mem hc1 (List.mem_of_getElem? hx)
          simp only [GsShadesOf.l0, letK, hi, Option.bind_some, unShade, l7Takes_eq light hok hh, appK, iteK_if]
          rw [guardK_pos hs]
          cases takesB x hue light <;> rfl
end Go.Proofs.Ytpbbechgpgnpbaa.Q7Of

/- The laws' helpers on Shade and on slices of it as plain functions: copied, equal, their bulk. No condition. -/
namespace Go.Proofs.Ytpbbechgpgnpbaa.QHShadeE
set_option linter.unusedVariables false
set_option linter.unusedSimpArgs false
open Go.RowKit
open Go.Proofs.Ytpbbechgpgnpbaa.GoP Go.Proofs.Ytpbbechgpgnpbaa.QBase Go.Proofs.Ytpbbechgpgnpbaa.QLoop Go.Proofs.Ytpbbechgpgnpbaa.PShade

theorem toOne (s : Shade) : GlToShade.P s = some s := by cases s; rfl
theorem eqOne (s : Shade) : GlEqShade.P s s = some true := by
  obtain ⟨x0, x1, x2, x3, x4⟩ := s
  simp [GlEqShade.P, unShade, letK, joinK, appK, iteK_if]
theorem toS (l : List Shade) (hl : l.length ≤ 1048576) : GlToShadeS.P l = some l := by
  simp only [GlToShadeS.P, letK]
  rw [guardK_pos (by omega)]
  refine cnt_is l (fun k s => s = l.take k ++ List.replicate (l.length - k) (Shade.mk ByteArray.empty 0 0 0 0)) ?_ ?_ _ (by simp)
  · intro k s nx hk hI hn
    obtain ⟨x, hx, hi⟩ := at_lt (l := l) (k := k) hk
    have hlen : s.length = l.length := by rw [hI]; simp; omega
    obtain ⟨z, hz, hj⟩ := at_lt (l := s) (k := k) (by omega)
    simp only [GlToShadeS.l0, hi, hj, toOne, Option.bind_some, unShade, letK, appK]
    refine hn _ ?_
    rw [hI, take_next hx, List.set_append_right _ _ (by simp; omega)]
    have hr : l.length - k = (l.length - (k + 1)) + 1 := by omega
    rw [hr, List.replicate_succ, List.append_assoc]
    simp [show k - min k l.length = 0 by omega]
  · intro s hI
    rw [hI]; simp [GlToShadeS.e0, letK]
theorem eqS (l : List Shade) : GlEqShadeS.P l l = some true := by
  simp only [GlEqShadeS.P, letK, iteK_if]
  rw [if_neg (by simp)]
  refine cnt_is true (fun _ _ => True) ?_ (fun s _ => rfl) () trivial
  intro k s nx hk _ hn
  obtain ⟨x, hx, hi⟩ := at_lt (l := l) (k := k) hk
  simp only [GlEqShadeS.l0, hi, Option.bind_some, unShade, eqOne, letK, appK, iteK_if]
  exact hn () trivial
theorem fits_max {s : Shade} (h : s.fits) : s.name.size ≤ 9223372036854775807 := by
  obtain ⟨x0, x1, x2, x3, x4⟩ := s
  obtain ⟨hx0, hx1, hx2, hx3, hx4⟩ := h
  unfold maxLen at hx0
  exact hx0
theorem szOne (s : Shade) (left : Int) (h : s.fits) (h0 : 0 ≤ left) (h1 : left ≤ 1048576) : ∃ v, GlSzShade.P s left = some v ∧ v ≤ left := by
  have hm := fits_max h
  simp only [GlSzShade.P, unShade, letK, iteK_if]
  rw [wrap_in (x := left - (s.name.size : Int)) (by omega) (by omega)]
  by_cases hd0 : left - (s.name.size : Int) < 0
  · exact ⟨-1, by rw [if_pos (by simpa using hd0)], by omega⟩
  rw [if_neg (by simpa using hd0)]
  exact ⟨_, rfl, by omega⟩
theorem szS (l : List Shade) (hf : ∀ s ∈ l, s.fits) (hl : l.length ≤ 9223372036854775807) : ∃ v, GlSzShadeS.P l 1048576 = some v ∧ (0 ≤ v → l.length ≤ 1048576) := by
  simp only [GlSzShadeS.P, letK, iteK_if]
  rw [wrap_in (by omega) (by omega)]
  by_cases h : (1048576 : Int) - (l.length : Int) < 0
  · exact ⟨-1, by rw [if_pos (by simp; omega)], by omega⟩
  · rw [if_neg (by simp; omega)]
    refine cnt_ex (n := l.length) (Q := fun v => 0 ≤ v → l.length ≤ 1048576) (fun _ (s : Int) => 0 ≤ s ∧ s ≤ 1048576) ?_ ?_ l.length 0 _ (by omega) ⟨by omega, by omega⟩
    · intro k s nx hk hI hn
      obtain ⟨x, hx, hi⟩ := at_lt (l := l) (k := k) hk
      simp only [GlSzShadeS.l0, hi, Option.bind_some, unShade, letK, appK, iteK_if]
      obtain ⟨v, hv, hv1⟩ := szOne x s (hf x (List.mem_of_getElem? hx)) hI.1 hI.2
      have hv' : GlSzShade.P ⟨x.name, x.hue, x.width, x.dark, x.light⟩ s = some v := hv
      rw [hv']
      simp only [Option.bind_some]
      by_cases hb : v < 0
      · rw [if_pos (by simpa using hb)]; exact ⟨-1, by simp, by omega⟩
      · rw [if_neg (by simpa using hb)]
        exact hn _ ⟨by omega, by omega⟩
    · intro s hI; exact ⟨s, rfl, fun _ => by omega⟩
end Go.Proofs.Ytpbbechgpgnpbaa.QHShadeE

/- The laws' helper that marks a slice of Shade as a plain function. No condition. -/
namespace Go.Proofs.Ytpbbechgpgnpbaa.QHShade
set_option linter.unusedVariables false
set_option linter.unusedSimpArgs false
open Go.RowKit
open Go.Proofs.Ytpbbechgpgnpbaa.GoP Go.Proofs.Ytpbbechgpgnpbaa.QBase Go.Proofs.Ytpbbechgpgnpbaa.QLoop Go.Proofs.Ytpbbechgpgnpbaa.PShade 
theorem set_at {α : Type} {l : List α} {k : Nat} (x : α) (h : k < l.length) : idx (l.set k x) (k : Int) = some x := by rw [idx_nat, List.getElem?_set_self h]
theorem mark_ok (k : Int) (h : 1 ≤ k ∧ k ≤ 1000000000) : ∃ t, GlMarkText.P k = some t := by
  unfold GlMarkText.P; rw [if_pos h]; exact ⟨_, rfl⟩
theorem markS (l : List Shade) (hl : l.length ≤ 1048576) : ∃ v l', GlMarkShadeS.P l 1 = some (v, l') ∧ 0 ≤ v := by
  obtain ⟨⟨v, l'⟩, h, hv⟩ : ∃ r : Int × List Shade, GlMarkShadeS.P l 1 = some r ∧ 0 ≤ r.1 := by
    simp only [GlMarkShadeS.P]
    refine cnt_ex (n := l.length) (Q := fun r : Int × List Shade => 0 ≤ r.1) (fun k (s : List Shade × Int) => s.1.length = l.length ∧ s.2 = 5 * (k : Int) + 1) ?_ ?_ l.length 0 (l, 1) (by omega) ⟨rfl, rfl⟩
    · rintro k ⟨a, b⟩ nx hk ⟨h1, h2⟩ hn
      dsimp only at h1 h2
      obtain ⟨x, hx, hi⟩ := at_lt (l := a) (k := k) (by omega)
      have ha : k < a.length := by omega
      have w1 : IntKind.i64.wrap (b + 1) = b + 1 := wrap_in (by omega) (by omega)
      have w2 : IntKind.i64.wrap (b + 1 + 1) = b + 1 + 1 := wrap_in (by omega) (by omega)
      have w3 : IntKind.i64.wrap (b + 1 + 1 + 1) = b + 1 + 1 + 1 := wrap_in (by omega) (by omega)
      have w4 : IntKind.i64.wrap (b + 1 + 1 + 1 + 1) = b + 1 + 1 + 1 + 1 := wrap_in (by omega) (by omega)
      have w5 : IntKind.i64.wrap (b + 1 + 1 + 1 + 1 + 1) = b + 1 + 1 + 1 + 1 + 1 := wrap_in (by omega) (by omega)
      obtain ⟨t0, m0⟩ := mark_ok (b) (by omega)
      simp (disch := simp [ha]) only [GlMarkShadeS.l0, unp2, hi, set_at, Option.bind_some, unShade, letK, appK, w1, w2, w3, w4, w5, m0]
      exact hn _ ⟨by simpa using h1, by dsimp only; omega⟩
    · rintro ⟨a, b⟩ ⟨h1, h2⟩
      exact ⟨_, rfl, by dsimp only at h2 ⊢; omega⟩
  exact ⟨v, l', h, hv⟩
end Go.Proofs.Ytpbbechgpgnpbaa.QHShade

/- The laws' helpers on rows of texts, and on rows of those, as plain functions: equal, marked, held. (QHT) No condition but those of each theorem. -/
namespace Go.Proofs.Ytpbbechgpgnpbaa.QHT
set_option linter.unusedVariables false
set_option linter.unusedSimpArgs false
open Go.RowKit
open Go.Proofs.Ytpbbechgpgnpbaa.GoP Go.Proofs.Ytpbbechgpgnpbaa.PlainStamp Go.Proofs.Ytpbbechgpgnpbaa.QBase Go.Proofs.Ytpbbechgpgnpbaa.QLoop

theorem eqT (l : List ByteArray) : GlEqStringS.P l l = some true := by
  simp only [GlEqStringS.P, letK, iteK_if]
  rw [if_neg (by simp)]
  refine cnt_is true (fun _ _ => True) ?_ (fun s _ => rfl) () trivial
  intro k s nx hk _ hn
  obtain ⟨x, hx, hi⟩ := at_lt (l := l) (k := k) hk
  simp only [GlEqStringS.l0, hi, Option.bind_some, letK, appK, iteK_if]
  rw [if_neg (by simp)]
  exact hn () trivial
/-- the marks from c on -/
def mtL (c : Int) (n : Nat) : List ByteArray := (List.range n).map fun i : Nat => Go.Proofs.Ytpbbechgpgnpbaa.MarkStr.mt (c + (i : Int)).toNat
theorem mtL_at {c : Int} {n k : Nat} (h : k < n) : (mtL c n)[k]? = some (Go.Proofs.Ytpbbechgpgnpbaa.MarkStr.mt (c + (k : Int)).toNat) := by unfold mtL; simp [h]
theorem mtL_len (c : Int) (n : Nat) : (mtL c n).length = n := by simp [mtL]
theorem mark_is {k : Int} (h : 1 ≤ k ∧ k ≤ 1000000000) : GlMarkText.P k = some (Go.Proofs.Ytpbbechgpgnpbaa.MarkStr.mt k.toNat) := by unfold GlMarkText.P; rw [if_pos h]
theorem markT (l : List ByteArray) (c : Int) (h0 : 1 ≤ c) (h1 : c + l.length ≤ 1000000000) : GlMarkStringS.P l c = some (c + (l.length : Int), mtL c l.length) := by
  simp only [GlMarkStringS.P]
  refine cnt_is _ (fun k (s : List ByteArray × Int) => s.1.length = l.length ∧ s.2 = c + (k : Int) ∧ ∀ i : Nat, i < k → s.1[i]? = some (Go.Proofs.Ytpbbechgpgnpbaa.MarkStr.mt (c + (i : Int)).toNat)) ?_ ?_ (l, c) ⟨rfl, by simp, fun i hi => by omega⟩
  · rintro k ⟨a, b⟩ nx hk ⟨h1, h2, h3⟩ hn
    dsimp only at h1 h2 h3
    obtain ⟨x, hx, hi⟩ := at_lt (l := a) (k := k) (by omega)
    simp only [GlMarkStringS.l0, unp2]
    rw [mark_is (by omega)]
    simp only [hi, Option.bind_some, letK, appK]
    rw [wrap_in (by omega) (by omega)]
    refine hn _ ⟨by simpa using h1, by dsimp only; omega, fun i hi2 => ?_⟩
    dsimp only
    by_cases he : i = k
    · subst he; rw [List.getElem?_set_self (by omega), h2]
    · rw [List.getElem?_set_ne (by omega)]; exact h3 i (by omega)
  · rintro ⟨a, b⟩ ⟨h1, h2, h3⟩
    dsimp only at h1 h2 h3
    have : a = mtL c l.length := by
      apply List.ext_getElem?
      intro i
      by_cases hi : i < l.length
      · rw [h3 i hi, mtL_at hi]
      · rw [List.getElem?_eq_none (by omega), List.getElem?_eq_none (by rw [mtL_len]; omega)]
    simp only [GlMarkStringS.e0, unp2]
    rw [this, h2]
theorem heldT (c : Int) (n : Nat) (h0 : 1 ≤ c) (h1 : c + n ≤ 1000000000) : GlHeldStringS.P (mtL c n) c = some (c + (n : Int)) := by
  simp only [GlHeldStringS.P]
  refine cnt_is _ (fun k s => s = c + (k : Int)) ?_ ?_ c (by simp)
  · intro k s nx hk hI hn
    rw [mtL_len] at hk
    have hi : idx (mtL c n) (k : Int) = some (Go.Proofs.Ytpbbechgpgnpbaa.MarkStr.mt (c + (k : Int)).toNat) := by rw [idx_nat, mtL_at hk]
    simp only [GlHeldStringS.l0, hi, Option.bind_some, letK, appK, iteK_if]
    rw [mark_is (by omega)]
    simp only [Option.bind_some]
    rw [if_neg (by simp [hI]), wrap_in (by omega) (by omega)]
    exact hn _ (by omega)
  · intro s hI
    simp only [GlHeldStringS.e0, letK]
    rw [hI, mtL_len]
end Go.Proofs.Ytpbbechgpgnpbaa.QHT

/- Chapter 7: hues and shades: the plain functions of the program and of the reference agree, and the laws answer true. (QL7Of) No condition but those of each theorem. -/
namespace Go.Proofs.Ytpbbechgpgnpbaa.QL7Of
set_option linter.unusedVariables false
set_option linter.unusedSimpArgs false
open Go.RowKit
open Go.Proofs.Ytpbbechgpgnpbaa.GoP Go.Proofs.Ytpbbechgpgnpbaa.PlainStamp Go.Proofs.Ytpbbechgpgnpbaa.QBase Go.Proofs.Ytpbbechgpgnpbaa.Q7Of Go.Proofs.Ytpbbechgpgnpbaa.QLoop Go.Proofs.Ytpbbechgpgnpbaa.PShade Go.Proofs.Ytpbbechgpgnpbaa.QHShadeE Go.Proofs.Ytpbbechgpgnpbaa.QHShade Go.Proofs.Ytpbbechgpgnpbaa.QHT

theorem law_of (l : List Shade) (hue light : Int) (hf : ∀ s ∈ l, s.fits) (hl : l.length ≤ 9223372036854775807) : GlFnExactShadesOf.P l hue light = some true := by
  obtain ⟨v, hv, hn⟩ := szS l hf hl
  simp only [GlFnExactShadesOf.P, hv, Option.bind_some, letK, iteK_if]
  by_cases hb : v < 0
  · rw [if_pos (by simp; omega)]
  · rw [if_neg (by simp; omega)]
    have hle := hn (by omega)
    obtain ⟨⟨a, b⟩, hr⟩ : ∃ x, x = ofRes l hue light := ⟨_, rfl⟩
    have hlen := of_len l hue light
    rw [← hr] at hlen
    dsimp only at hlen
    obtain ⟨v2, l2, hm, hv2⟩ := markS l hle
    have hv3 : ¬ v2 < 0 := by omega
    have hv4 : ¬ 1 + (a.length : Int) < 0 := by omega
    simp [toS l hle, of_spec l hue light hf hl, of_impl l hue light hl, ← hr, bind2, joinK, appK, iteK_if, eqS, eqT, hm, hv3, markT a 1 (by omega) (by omega), heldT 1 a.length (by omega) (by omega), hv4]
end Go.Proofs.Ytpbbechgpgnpbaa.QL7Of

