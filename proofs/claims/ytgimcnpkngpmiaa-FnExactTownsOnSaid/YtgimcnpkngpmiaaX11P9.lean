/- Texts on which the proofs of several laws stand, one behind the other (9 of 18). No condition of their own. -/
import Derived.Test.YtgimcnpkngpmiaaChecked
import Derived.Test.YtgimcnpkngpmiaaX11P1
import Derived.WalkKit
import Derived.WalkSpells
import Derived.WalkLawsBesides
import Derived.BigQuiet
import Derived.OwnWalk
import Derived.Deep.LoopGhost
import Derived.Deep.QuietTactic
import Derived.IntWalk
import Derived.Lib.QuietBelow
import Derived.Test.YtgimcnpkngpmiaaX11P2
import Derived.Test.YtgimcnpkngpmiaaX11P4
import Derived.Lib.RowBridge
import Derived.Sort.EncStr
import Derived.Test.YtgimcnpkngpmiaaX11P5
import Derived.Test.YtgimcnpkngpmiaaX11P8
/- loop.example/g01062/impl.wasUsedOn as a plain function, and the contract of the program's: where the plain one has an answer, the program has it. Conditions: slices read as lists. -/
namespace Go.Proofs.Ytgimcnpkngpmiaa.GiWasUsedOn
set_option linter.unusedVariables false
set_option linter.unusedSimpArgs false
open Go.RowKit
open Go.Proofs.Ytgimcnpkngpmiaa.Rowed Go.Proofs.Ytgimcnpkngpmiaa.Turn Go.Proofs.Ytgimcnpkngpmiaa.Aid Go.Proofs.Ytgimcnpkngpmiaa.GoP Go.Proofs.Ytgimcnpkngpmiaa.GoM

def P (p : Go.Proofs.Ytgimcnpkngpmiaa.PPostmark.Postmark) (day : Int) : Option (Bool) :=
  unPostmark p fun (p_id : Int) (p_town : ByteArray) (p_kind_ : Int) (p_first : Int) (p_last : Int) (p_lost : ByteArray) =>
  Option.bind (Go.Proofs.Ytgimcnpkngpmiaa.GiWithin.P day p_first p_last) fun (t_7 : Bool) =>
  some t_7

set_option maxRecDepth 100000 in
set_option maxHeartbeats 2000000 in
theorem C (p : Go.Proofs.Ytgimcnpkngpmiaa.PPostmark.Postmark) (day : Int)   (w : World)   {r : Bool} (H : Hid (P p day = some r)) :
    Calls Try.prog 68 #[p.val, .int .i64 day] w (Gives (.bool r) w) := by
  have HB := Lib.hid (Below.refl w.heap.size w)
  unfold P at H
  obtain ⟨p_id, p_town, p_kind_, p_first, p_last, p_lost⟩ := p
  replace H := unPostmark_hid H
  unfold Go.Proofs.Ytgimcnpkngpmiaa.PPostmark.Postmark.val
  go_enter Try.func68, Try.ntmps68
  obtain ⟨w_p_0, hw_p_0⟩ : ∃ x, w.alloc (.cells #[.int .i64 p_id, .string p_town, .int .i64 p_kind_, .int .i64 p_first, .int .i64 p_last, .string p_lost] 26) = x := ⟨_, rfl⟩
  have bw_p_0 : Below w.heap.size w w_p_0 := by rw [← hw_p_0]; exact (Below.refl _ _).alloc (Nat.le_refl _) _
  have HBw_p_0 := Lib.hid (Below.step HB.out bw_p_0)
  clear bw_p_0
  have kp_0_0 : w_p_0.cell? ⟨w.heap.size, 0, none⟩ = some (.int .i64 p_id) := by rw [← hw_p_0]; exact box_new _ _ _ 0 _ rfl
  have kp_0_1 : w_p_0.cell? ⟨w.heap.size, 1, none⟩ = some (.string p_town) := by rw [← hw_p_0]; exact box_new _ _ _ 1 _ rfl
  have kp_0_2 : w_p_0.cell? ⟨w.heap.size, 2, none⟩ = some (.int .i64 p_kind_) := by rw [← hw_p_0]; exact box_new _ _ _ 2 _ rfl
  have kp_0_3 : w_p_0.cell? ⟨w.heap.size, 3, none⟩ = some (.int .i64 p_first) := by rw [← hw_p_0]; exact box_new _ _ _ 3 _ rfl
  have kp_0_4 : w_p_0.cell? ⟨w.heap.size, 4, none⟩ = some (.int .i64 p_last) := by rw [← hw_p_0]; exact box_new _ _ _ 4 _ rfl
  have kp_0_5 : w_p_0.cell? ⟨w.heap.size, 5, none⟩ = some (.string p_lost) := by rw [← hw_p_0]; exact box_new _ _ _ 5 _ rfl
  replace H := bind_hid H
  obtain ⟨t_7, qt_7, H⟩ := H
  go_wp2_with fail
  go_at_call 41
  refine (Go.Proofs.Ytgimcnpkngpmiaa.GiWithin.C (day) (p_first) (p_last)  _    qt_7).mono ?_
  rintro e_t_7 wt_7 ⟨rfl, bt_7⟩
  have HBwt_7 := Lib.hid (Below.step HBw_p_0.out bt_7)
  replace kp_0_0 := cell_below bt_7 kp_0_0
  replace kp_0_1 := cell_below bt_7 kp_0_1
  replace kp_0_2 := cell_below bt_7 kp_0_2
  replace kp_0_3 := cell_below bt_7 kp_0_3
  replace kp_0_4 := cell_below bt_7 kp_0_4
  replace kp_0_5 := cell_below bt_7 kp_0_5
  clear bt_7
  obtain rfl := ret_hid H
  go_wp2_with fail
  go_ret
  exact ⟨rfl, HBwt_7.out⟩
end Go.Proofs.Ytgimcnpkngpmiaa.GiWasUsedOn

/- loop.example/g01062/impl.TownsOn$1 as a plain function, and the contract of the program's: where the plain one has an answer, the program has it. Conditions: slices read as lists. -/
namespace Go.Proofs.Ytgimcnpkngpmiaa.GiTownsOn1
set_option linter.unusedVariables false
set_option linter.unusedSimpArgs false
open Go.RowKit
open Go.Proofs.Ytgimcnpkngpmiaa.Rowed Go.Proofs.Ytgimcnpkngpmiaa.Turn Go.Proofs.Ytgimcnpkngpmiaa.Aid Go.Proofs.Ytgimcnpkngpmiaa.GoP Go.Proofs.Ytgimcnpkngpmiaa.GoM

def P (p : Go.Proofs.Ytgimcnpkngpmiaa.PPostmark.Postmark) (hq0 : Int) : Option (Bool) :=
  unPostmark p fun (p_id : Int) (p_town : ByteArray) (p_kind_ : Int) (p_first : Int) (p_last : Int) (p_lost : ByteArray) =>
  Option.bind (Go.Proofs.Ytgimcnpkngpmiaa.GiWasUsedOn.P (Go.Proofs.Ytgimcnpkngpmiaa.PPostmark.Postmark.mk p_id p_town p_kind_ p_first p_last p_lost) hq0) fun (t_4 : Bool) =>
  some t_4

set_option maxRecDepth 100000 in
set_option maxHeartbeats 2000000 in
theorem C (p : Go.Proofs.Ytgimcnpkngpmiaa.PPostmark.Postmark) (hq0 : Int)  (gq0 : Nat) (w : World)  (Fq0h : Hid (w.cell? ⟨gq0, 0, none⟩ = some (.int .i64 hq0))) {r : Bool} (H : Hid (P p hq0 = some r)) :
    Calls Try.prog 67 #[p.val, .pointer (some ⟨gq0, 0, none⟩)] w (Gives (.bool r) w) := by
  have HB := Lib.hid (Below.refl w.heap.size w)
  unfold P at H
  obtain ⟨p_id, p_town, p_kind_, p_first, p_last, p_lost⟩ := p
  replace H := unPostmark_hid H
  unfold Go.Proofs.Ytgimcnpkngpmiaa.PPostmark.Postmark.val
  have Fq0 := Fq0h.out
  go_enter Try.func67, Try.ntmps67
  obtain ⟨w_p_0, hw_p_0⟩ : ∃ x, w.alloc (.cells #[.int .i64 p_id, .string p_town, .int .i64 p_kind_, .int .i64 p_first, .int .i64 p_last, .string p_lost] 26) = x := ⟨_, rfl⟩
  have bw_p_0 : Below w.heap.size w w_p_0 := by rw [← hw_p_0]; exact (Below.refl _ _).alloc (Nat.le_refl _) _
  have HBw_p_0 := Lib.hid (Below.step HB.out bw_p_0)
  have Fq0__550 := cell_below bw_p_0 Fq0
  clear bw_p_0
  have kp_0_0 : w_p_0.cell? ⟨w.heap.size, 0, none⟩ = some (.int .i64 p_id) := by rw [← hw_p_0]; exact box_new _ _ _ 0 _ rfl
  have kp_0_1 : w_p_0.cell? ⟨w.heap.size, 1, none⟩ = some (.string p_town) := by rw [← hw_p_0]; exact box_new _ _ _ 1 _ rfl
  have kp_0_2 : w_p_0.cell? ⟨w.heap.size, 2, none⟩ = some (.int .i64 p_kind_) := by rw [← hw_p_0]; exact box_new _ _ _ 2 _ rfl
  have kp_0_3 : w_p_0.cell? ⟨w.heap.size, 3, none⟩ = some (.int .i64 p_first) := by rw [← hw_p_0]; exact box_new _ _ _ 3 _ rfl
  have kp_0_4 : w_p_0.cell? ⟨w.heap.size, 4, none⟩ = some (.int .i64 p_last) := by rw [← hw_p_0]; exact box_new _ _ _ 4 _ rfl
  have kp_0_5 : w_p_0.cell? ⟨w.heap.size, 5, none⟩ = some (.string p_lost) := by rw [← hw_p_0]; exact box_new _ _ _ 5 _ rfl
  replace H := bind_hid H
  obtain ⟨t_4, qt_4, H⟩ := H
  go_wp2_with fail
  clear Fq0
  go_at_call 68
  refine (Go.Proofs.Ytgimcnpkngpmiaa.GiWasUsedOn.C ((Go.Proofs.Ytgimcnpkngpmiaa.PPostmark.Postmark.mk p_id p_town p_kind_ p_first p_last p_lost)) (hq0)  _    qt_4).mono ?_
  rintro e_t_4 wt_4 ⟨rfl, bt_4⟩
  have HBwt_4 := Lib.hid (Below.step HBw_p_0.out bt_4)
  replace Fq0__550 := cell_below bt_4 Fq0__550
  replace kp_0_0 := cell_below bt_4 kp_0_0
  replace kp_0_1 := cell_below bt_4 kp_0_1
  replace kp_0_2 := cell_below bt_4 kp_0_2
  replace kp_0_3 := cell_below bt_4 kp_0_3
  replace kp_0_4 := cell_below bt_4 kp_0_4
  replace kp_0_5 := cell_below bt_4 kp_0_5
  clear bt_4
  obtain rfl := ret_hid H
  go_wp2_with fail
  go_ret
  exact ⟨rfl, HBwt_4.out⟩
end Go.Proofs.Ytgimcnpkngpmiaa.GiTownsOn1

/- loop.example/g01062/impl.townOfPostmark as a plain function, and the contract of the program's: where the plain one has an answer, the program has it. Conditions: slices read as lists. -/
namespace Go.Proofs.Ytgimcnpkngpmiaa.GiTownOfPostmark
set_option linter.unusedVariables false
set_option linter.unusedSimpArgs false
open Go.RowKit
open Go.Proofs.Ytgimcnpkngpmiaa.Rowed Go.Proofs.Ytgimcnpkngpmiaa.Turn Go.Proofs.Ytgimcnpkngpmiaa.Aid Go.Proofs.Ytgimcnpkngpmiaa.GoP Go.Proofs.Ytgimcnpkngpmiaa.GoM

def P (p : Go.Proofs.Ytgimcnpkngpmiaa.PPostmark.Postmark) : Option (ByteArray) :=
  unPostmark p fun (p_id : Int) (p_town : ByteArray) (p_kind_ : Int) (p_first : Int) (p_last : Int) (p_lost : ByteArray) =>
  some p_town

set_option maxRecDepth 100000 in
set_option maxHeartbeats 2000000 in
theorem C (p : Go.Proofs.Ytgimcnpkngpmiaa.PPostmark.Postmark)   (w : World)   {r : ByteArray} (H : Hid (P p = some r)) :
    Calls Try.prog 66 #[p.val] w (Gives (.string r) w) := by
  have HB := Lib.hid (Below.refl w.heap.size w)
  unfold P at H
  obtain ⟨p_id, p_town, p_kind_, p_first, p_last, p_lost⟩ := p
  replace H := unPostmark_hid H
  unfold Go.Proofs.Ytgimcnpkngpmiaa.PPostmark.Postmark.val
  go_enter Try.func66, Try.ntmps66
  obtain ⟨w_p_0, hw_p_0⟩ : ∃ x, w.alloc (.cells #[.int .i64 p_id, .string p_town, .int .i64 p_kind_, .int .i64 p_first, .int .i64 p_last, .string p_lost] 26) = x := ⟨_, rfl⟩
  have bw_p_0 : Below w.heap.size w w_p_0 := by rw [← hw_p_0]; exact (Below.refl _ _).alloc (Nat.le_refl _) _
  have HBw_p_0 := Lib.hid (Below.step HB.out bw_p_0)
  clear bw_p_0
  have kp_0_0 : w_p_0.cell? ⟨w.heap.size, 0, none⟩ = some (.int .i64 p_id) := by rw [← hw_p_0]; exact box_new _ _ _ 0 _ rfl
  have kp_0_1 : w_p_0.cell? ⟨w.heap.size, 1, none⟩ = some (.string p_town) := by rw [← hw_p_0]; exact box_new _ _ _ 1 _ rfl
  have kp_0_2 : w_p_0.cell? ⟨w.heap.size, 2, none⟩ = some (.int .i64 p_kind_) := by rw [← hw_p_0]; exact box_new _ _ _ 2 _ rfl
  have kp_0_3 : w_p_0.cell? ⟨w.heap.size, 3, none⟩ = some (.int .i64 p_first) := by rw [← hw_p_0]; exact box_new _ _ _ 3 _ rfl
  have kp_0_4 : w_p_0.cell? ⟨w.heap.size, 4, none⟩ = some (.int .i64 p_last) := by rw [← hw_p_0]; exact box_new _ _ _ 4 _ rfl
  have kp_0_5 : w_p_0.cell? ⟨w.heap.size, 5, none⟩ = some (.string p_lost) := by rw [← hw_p_0]; exact box_new _ _ _ 5 _ rfl
  obtain rfl := ret_hid H
  go_wp2_with fail
  go_ret
  exact ⟨rfl, HBw_p_0.out⟩
end Go.Proofs.Ytgimcnpkngpmiaa.GiTownOfPostmark

/- loop.example/g01062/impl.keysWhere[loop.example/g01062/impl.Postmark,string] as a plain function, and the contract of the program's: where the plain one has an answer, the program has it. Conditions: slices read as lists. -/
namespace Go.Proofs.Ytgimcnpkngpmiaa.GiKeysWherePostmarkStringiTownOfPostmarkiTownsOn1
set_option linter.unusedVariables false
set_option linter.unusedSimpArgs false
open Go.RowKit
open Go.Proofs.Ytgimcnpkngpmiaa.Rowed Go.Proofs.Ytgimcnpkngpmiaa.Turn Go.Proofs.Ytgimcnpkngpmiaa.Aid Go.Proofs.Ytgimcnpkngpmiaa.GoP Go.Proofs.Ytgimcnpkngpmiaa.GoM

def l0 (list : (List Go.Proofs.Ytgimcnpkngpmiaa.PPostmark.Postmark)) (hf2_0 : Int) (k0 : Nat) (s : (List ByteArray)) (nx0 bk0 : (List ByteArray) → Option ((List ByteArray))) : Option ((List ByteArray)) :=
  letK s fun keys_7l0 =>
  Option.bind (idx list (k0 : Int)) fun (yt_7 : Go.Proofs.Ytgimcnpkngpmiaa.PPostmark.Postmark) =>
  unPostmark yt_7 fun (t_7_id : Int) (t_7_town : ByteArray) (t_7_kind_ : Int) (t_7_first : Int) (t_7_last : Int) (t_7_lost : ByteArray) =>
  Option.bind (Go.Proofs.Ytgimcnpkngpmiaa.GiTownsOn1.P (Go.Proofs.Ytgimcnpkngpmiaa.PPostmark.Postmark.mk t_7_id t_7_town t_7_kind_ t_7_first t_7_last t_7_lost) hf2_0) fun (t_13 : Bool) =>
  iteK t_13
  (Option.bind (Go.Proofs.Ytgimcnpkngpmiaa.GiTownOfPostmark.P (Go.Proofs.Ytgimcnpkngpmiaa.PPostmark.Postmark.mk t_7_id t_7_town t_7_kind_ t_7_first t_7_last t_7_lost)) fun (t_17 : ByteArray) =>
  guardK (keys_7l0.length ≤ 1099511627776) <|
  letK (keys_7l0 ++ [t_17]) fun (t_19 : (List ByteArray)) =>
  appK nx0 (t_19))
  (appK nx0 (keys_7l0))

def e0  (s : (List ByteArray)) : Option ((List ByteArray)) :=
  letK s fun keys_7l0 =>
  some keys_7l0

def P (list : (List Go.Proofs.Ytgimcnpkngpmiaa.PPostmark.Postmark)) (hf2_0 : Int) : Option ((List ByteArray)) :=
  cntK (l0 list hf2_0) (list.length) 0 (([] : List ByteArray)) (e0 )

set_option maxRecDepth 100000 in
set_option maxHeartbeats 2000000 in
theorem C (list : (List Go.Proofs.Ytgimcnpkngpmiaa.PPostmark.Postmark)) (hf2_0 : Int) (A0 : Option Addr) (c0 : Nat) (gf2_0 : Nat) (w : World) (M0 : Hid (Cells w 6 A0 list.length (Go.Proofs.Ytgimcnpkngpmiaa.PPostmark.flat list))) (N0 : Hid (list.length ≤ 9223372036854775807)) (Ff2_0h : Hid (w.cell? ⟨gf2_0, 0, none⟩ = some (.int .i64 hf2_0))) {r : (List ByteArray)} (H : Hid (P list hf2_0 = some r)) :
    Calls Try.prog 65 #[.slice A0 list.length c0, .func (.func 66) #[] #[], .func (.func 67) #[] #[.pointer (some ⟨gf2_0, 0, none⟩)]] w (fun e w' => ∃ A_r c_r, e = .returned (.slice A_r r.length c_r) ∧ w'.ownsRow w.heap.size 9 1 (.slice A_r r.length c_r) r.length (r.map Value.string) ∧ Below w.heap.size w w') := by
  have HB := Lib.hid (Below.refl w.heap.size w)
  unfold P at H
  have N0o := N0.out
  have Ff2_0 := Ff2_0h.out
  obtain ⟨i0_9, hi_9, hz0_9, hz1_9, hz2_9⟩ := Aid.info_parts (P := Try.prog) (T := 9) (z := .string ByteArray.empty) (s := 1) (b := 16) (by kernel_rfl)
  go_enter Try.func65, Try.ntmps65
  obtain ⟨w_t_1, hw_t_1⟩ : ∃ x, w.alloc (.cells #[] 9) = x := ⟨_, rfl⟩
  have bw_t_1 : Below w.heap.size w w_t_1 := by rw [← hw_t_1]; exact (Below.refl _ _).alloc (Nat.le_refl _) _
  have Ot_1 : Hid (w_t_1.ownsRow w.heap.size 9 1 (.slice (some ⟨w.heap.size, 0, none⟩) 0 0) 0 []) := Lib.hid (by rw [← hw_t_1]; exact own_empty HB.out.size)
  have HBw_t_1 := Lib.hid (Below.step HB.out bw_t_1)
  have Ff2_0__551 := cell_below bw_t_1 Ff2_0
  clear bw_t_1
  go_wp2_with fail
  clear Ff2_0
  go_loopg [13, 7] (list.length) (fun m_ v13_ v7_ wr => ∃ (k0 : Nat) (keys_7l0 : (List ByteArray)) (Akeys_7l0 : Option Addr) (ckeys_7l0 : Nat), k0 + m_ = list.length ∧ v13_ = .int .i64 (k0 : Int) ∧ v7_ = .slice Akeys_7l0 keys_7l0.length ckeys_7l0 ∧ Hid (cntK (l0 list hf2_0) m_ k0 (keys_7l0) (e0 ) = some r) ∧ Hid (Below w.heap.size w wr) ∧ wr.cell? ⟨gf2_0, 0, none⟩ = some (.int .i64 hf2_0) ∧ Hid (wr.ownsRow w.heap.size 9 1 (.slice Akeys_7l0 keys_7l0.length ckeys_7l0) keys_7l0.length (keys_7l0.map Value.string)))
  case atStart => exact ⟨0, _, _, _, by omega, rfl, rfl, H, HBw_t_1, Ff2_0__551, Ot_1⟩
  case round =>
    obtain ⟨k0, keys_7l0, Akeys_7l0, ckeys_7l0, hkm0, rfl, rfl, H, HBwr0, Ff2_0__551, Okeys_7l0⟩ := hrel
    rename World => wr0
    cases gk with
    | zero =>
      obtain rfl : k0 = list.length := by omega
      have hc0 : decide (((list.length : Nat) : Int) < ((list.length : Nat) : Int)) = false := by simp
      replace H := cnt_zero H
      unfold e0 at H
      replace H := let_hid H
      obtain ⟨_, rfl, H⟩ := H
      obtain rfl := ret_hid H
      go_wp2_with fail
      go_ret
      exact ⟨Akeys_7l0, ckeys_7l0, rfl, Okeys_7l0.out, HBwr0.out⟩
    | succ m0 =>
      have hlt0 : k0 < list.length := by omega
      have hc0 : decide ((k0 : Int) < ((list.length : Nat) : Int)) = true := by simp; omega
      replace H := cnt_succ H
      unfold l0 at H
      replace H := let_hid H
      obtain ⟨_, rfl, H⟩ := H
      replace H := idx_hid H
      obtain ⟨nt_7, yt_7, et_7, lt_7, gt_7, H⟩ := H
      obtain rfl : k0 = nt_7 := by omega
      clear et_7
      obtain ⟨t_7_id, t_7_town, t_7_kind_, t_7_first, t_7_last, t_7_lost⟩ := yt_7
      replace H := unPostmark_hid H
      obtain ⟨ab_t_7, ao_t_7, zt_7, At_7, z_t_7, ct_7_0, ct_7_1, ct_7_2, ct_7_3, ct_7_4, ct_7_5⟩ := Go.Proofs.Ytgimcnpkngpmiaa.OPostmark.at_ M0.out lt_7
      obtain rfl := Option.some.inj (gt_7.out.symm.trans z_t_7)
      subst At_7
      have ltt_7 := cell_lt ct_7_0
      replace ct_7_0 := cell_below HBwr0.out ct_7_0
      replace ct_7_1 := cell_below HBwr0.out ct_7_1
      replace ct_7_2 := cell_below HBwr0.out ct_7_2
      replace ct_7_3 := cell_below HBwr0.out ct_7_3
      replace ct_7_4 := cell_below HBwr0.out ct_7_4
      replace ct_7_5 := cell_below HBwr0.out ct_7_5
      clear z_t_7
      have b0t_7 : (0 : Int) ≤ (k0 : Int) := by omega
      have b1t_7 : (k0 : Int) < ((list.length : Nat) : Int) := by omega
      have b2t_7 : ((k0 : Int)).toNat = k0 := by omega
      obtain ⟨w_e_9, hw_e_9⟩ : ∃ x, wr0.alloc (.cells #[.int .i64 t_7_id, .string t_7_town, .int .i64 t_7_kind_, .int .i64 t_7_first, .int .i64 t_7_last, .string t_7_lost] 26) = x := ⟨_, rfl⟩
      have bw_e_9 : Below wr0.heap.size wr0 w_e_9 := by rw [← hw_e_9]; exact (Below.refl _ _).alloc (Nat.le_refl _) _
      have De_9_keys_7l0 := Lib.hid (apart_fresh Okeys_7l0.out)
      have HBw_e_9 := Lib.hid (Below.step HBwr0.out bw_e_9)
      have Ff2_0__552 := cell_below bw_e_9 Ff2_0__551
      have ct_7_0__553 := cell_below bw_e_9 ct_7_0
      have ct_7_1__554 := cell_below bw_e_9 ct_7_1
      have ct_7_2__555 := cell_below bw_e_9 ct_7_2
      have ct_7_3__556 := cell_below bw_e_9 ct_7_3
      have ct_7_4__557 := cell_below bw_e_9 ct_7_4
      have ct_7_5__558 := cell_below bw_e_9 ct_7_5
      replace Okeys_7l0 := Lib.hid (own_below Okeys_7l0.out bw_e_9)
      clear bw_e_9
      have ke_9_0 : w_e_9.cell? ⟨wr0.heap.size, 0, none⟩ = some (.int .i64 t_7_id) := by rw [← hw_e_9]; exact box_new _ _ _ 0 _ rfl
      have ke_9_1 : w_e_9.cell? ⟨wr0.heap.size, 1, none⟩ = some (.string t_7_town) := by rw [← hw_e_9]; exact box_new _ _ _ 1 _ rfl
      have ke_9_2 : w_e_9.cell? ⟨wr0.heap.size, 2, none⟩ = some (.int .i64 t_7_kind_) := by rw [← hw_e_9]; exact box_new _ _ _ 2 _ rfl
      have ke_9_3 : w_e_9.cell? ⟨wr0.heap.size, 3, none⟩ = some (.int .i64 t_7_first) := by rw [← hw_e_9]; exact box_new _ _ _ 3 _ rfl
      have ke_9_4 : w_e_9.cell? ⟨wr0.heap.size, 4, none⟩ = some (.int .i64 t_7_last) := by rw [← hw_e_9]; exact box_new _ _ _ 4 _ rfl
      have ke_9_5 : w_e_9.cell? ⟨wr0.heap.size, 5, none⟩ = some (.string t_7_lost) := by rw [← hw_e_9]; exact box_new _ _ _ 5 _ rfl
      replace H := bind_hid H
      obtain ⟨t_13, qt_13, H⟩ := H
      go_wp2_with fail
      clear Ff2_0__551 ct_7_0 ct_7_1 ct_7_2 ct_7_3 ct_7_4 ct_7_5
      go_at_call 67
      refine (Go.Proofs.Ytgimcnpkngpmiaa.GiTownsOn1.C ((Go.Proofs.Ytgimcnpkngpmiaa.PPostmark.Postmark.mk t_7_id t_7_town t_7_kind_ t_7_first t_7_last t_7_lost)) (hf2_0) (gf2_0) _   (Lib.hid Ff2_0__552) qt_13).mono ?_
      rintro e_t_13 wt_13 ⟨rfl, bt_13⟩
      have HBwt_13 := Lib.hid (Below.step HBw_e_9.out bt_13)
      replace Ff2_0__552 := cell_below bt_13 Ff2_0__552
      replace ct_7_0__553 := cell_below bt_13 ct_7_0__553
      replace ct_7_1__554 := cell_below bt_13 ct_7_1__554
      replace ct_7_2__555 := cell_below bt_13 ct_7_2__555
      replace ct_7_3__556 := cell_below bt_13 ct_7_3__556
      replace ct_7_4__557 := cell_below bt_13 ct_7_4__557
      replace ct_7_5__558 := cell_below bt_13 ct_7_5__558
      replace ke_9_0 := cell_below bt_13 ke_9_0
      replace ke_9_1 := cell_below bt_13 ke_9_1
      replace ke_9_2 := cell_below bt_13 ke_9_2
      replace ke_9_3 := cell_below bt_13 ke_9_3
      replace ke_9_4 := cell_below bt_13 ke_9_4
      replace ke_9_5 := cell_below bt_13 ke_9_5
      replace Okeys_7l0 := Lib.hid (own_below Okeys_7l0.out bt_13)
      clear bt_13
      cases t_13 with
      | false =>
        replace H := ite_f H
        replace H := app_hid H
        go_wp2_with fail
        go_roundg m0
        case measure => omega
        case rel => exact ⟨k0 + 1, _, _, _, by omega, by go_num, rfl, H, HBwt_13, Ff2_0__552, Okeys_7l0⟩
      | true =>
        replace H := ite_t H
        replace H := bind_hid H
        obtain ⟨t_17, qt_17, H⟩ := H
        go_wp2_with fail
        go_at_call 66
        refine (Go.Proofs.Ytgimcnpkngpmiaa.GiTownOfPostmark.C ((Go.Proofs.Ytgimcnpkngpmiaa.PPostmark.Postmark.mk t_7_id t_7_town t_7_kind_ t_7_first t_7_last t_7_lost))  _    qt_17).mono ?_
        rintro e_t_17 wt_17 ⟨rfl, bt_17⟩
        have HBwt_17 := Lib.hid (Below.step HBwt_13.out bt_17)
        replace Ff2_0__552 := cell_below bt_17 Ff2_0__552
        replace ct_7_0__553 := cell_below bt_17 ct_7_0__553
        replace ct_7_1__554 := cell_below bt_17 ct_7_1__554
        replace ct_7_2__555 := cell_below bt_17 ct_7_2__555
        replace ct_7_3__556 := cell_below bt_17 ct_7_3__556
        replace ct_7_4__557 := cell_below bt_17 ct_7_4__557
        replace ct_7_5__558 := cell_below bt_17 ct_7_5__558
        replace ke_9_0 := cell_below bt_17 ke_9_0
        replace ke_9_1 := cell_below bt_17 ke_9_1
        replace ke_9_2 := cell_below bt_17 ke_9_2
        replace ke_9_3 := cell_below bt_17 ke_9_3
        replace ke_9_4 := cell_below bt_17 ke_9_4
        replace ke_9_5 := cell_below bt_17 ke_9_5
        replace Okeys_7l0 := Lib.hid (own_below Okeys_7l0.out bt_17)
        clear bt_17
        obtain ⟨w_t_18, hw_t_18⟩ : ∃ x, wt_17.alloc (.cells #[.string t_17] 9) = x := ⟨_, rfl⟩
        have bw_t_18 : Below wt_17.heap.size wt_17 w_t_18 := by rw [← hw_t_18]; exact (Below.refl _ _).alloc (Nat.le_refl _) _
        have HBw_t_18 := Lib.hid (Below.step HBwt_17.out bw_t_18)
        have Ff2_0__559 := cell_below bw_t_18 Ff2_0__552
        have ct_7_0__560 := cell_below bw_t_18 ct_7_0__553
        have ct_7_1__561 := cell_below bw_t_18 ct_7_1__554
        have ct_7_2__562 := cell_below bw_t_18 ct_7_2__555
        have ct_7_3__563 := cell_below bw_t_18 ct_7_3__556
        have ct_7_4__564 := cell_below bw_t_18 ct_7_4__557
        have ct_7_5__565 := cell_below bw_t_18 ct_7_5__558
        have ke_9_0__566 := cell_below bw_t_18 ke_9_0
        have ke_9_1__567 := cell_below bw_t_18 ke_9_1
        have ke_9_2__568 := cell_below bw_t_18 ke_9_2
        have ke_9_3__569 := cell_below bw_t_18 ke_9_3
        have ke_9_4__570 := cell_below bw_t_18 ke_9_4
        have ke_9_5__571 := cell_below bw_t_18 ke_9_5
        replace Okeys_7l0 := Lib.hid (own_below Okeys_7l0.out bw_t_18)
        clear bw_t_18
        replace H := guard_hid H
        obtain ⟨hlt_19, H⟩ := H
        replace H := let_hid H
        obtain ⟨t_19, ht_19, H⟩ := H
        have hht_19 := Lib.hid ht_19
        clear ht_19
        have hst_19 := HBw_t_18.out.size
        go_wp2_with (at_builtin; refine wpList_append_own_at _ rfl _ _ 47 rfl w.heap.size 9 i0_9 (.string ByteArray.empty) 1 16 Try.underlying47 hi_9 hz0_9 hz1_9 hz2_9 rfl (by decide) _ _ _ rfl Okeys_7l0.out ⟨wt_17.heap.size, 0, none⟩ 1 1 [.string t_17] rfl rfl (news_new hw_t_18) (one_cells rfl) (by unfold maxLen; omega) (by omega) hst_19 ?_; intro vt_19 wt_19 ot_19 gt_19 zt_19 yt_19; clear zt_19; obtain ⟨qt_19, ct_19, rfl, pt_19⟩ := own_push hht_19.out (by simp) rfl ot_19; have Pt_19 := Lib.hid pt_19; have Yt_19 := Lib.hid yt_19; have Gt_19 := Lib.hid gt_19; clear ot_19 gt_19 pt_19 yt_19; refine stop_in ?_)
        refine stop_out ?_
        have HBwt_19 := Lib.hid (HBw_t_18.out.grown Gt_19.out hst_19 (fun q hq => (Okeys_7l0.out.lt q hq).1))
        clear hst_19
        have Dt_19_e_9 : Hid (Apart (some ⟨qt_19, 0, none⟩) _) := Lib.hid (apart_app (Apart.symm De_9_keys_7l0.out) (fun a_ ha_ => by cases ha_; exact cell_lt ke_9_0__566) Yt_19.out)
        replace Ff2_0__559 := cell_below HBwt_19.out Ff2_0h.out
        replace ct_7_0__560 := cell_other ct_7_0__560 Gt_19.out (apart_old Okeys_7l0.out ltt_7)
        replace ct_7_1__561 := cell_other ct_7_1__561 Gt_19.out (apart_old Okeys_7l0.out ltt_7)
        replace ct_7_2__562 := cell_other ct_7_2__562 Gt_19.out (apart_old Okeys_7l0.out ltt_7)
        replace ct_7_3__563 := cell_other ct_7_3__563 Gt_19.out (apart_old Okeys_7l0.out ltt_7)
        replace ct_7_4__564 := cell_other ct_7_4__564 Gt_19.out (apart_old Okeys_7l0.out ltt_7)
        replace ct_7_5__565 := cell_other ct_7_5__565 Gt_19.out (apart_old Okeys_7l0.out ltt_7)
        replace ke_9_0__566 := cell_other ke_9_0__566 Gt_19.out (Apart.symm De_9_keys_7l0.out)
        replace ke_9_1__567 := cell_other ke_9_1__567 Gt_19.out (Apart.symm De_9_keys_7l0.out)
        replace ke_9_2__568 := cell_other ke_9_2__568 Gt_19.out (Apart.symm De_9_keys_7l0.out)
        replace ke_9_3__569 := cell_other ke_9_3__569 Gt_19.out (Apart.symm De_9_keys_7l0.out)
        replace ke_9_4__570 := cell_other ke_9_4__570 Gt_19.out (Apart.symm De_9_keys_7l0.out)
        replace ke_9_5__571 := cell_other ke_9_5__571 Gt_19.out (Apart.symm De_9_keys_7l0.out)
        clear Ff2_0__552 ct_7_0__553 ct_7_1__554 ct_7_2__555 ct_7_3__556 ct_7_4__557 ct_7_5__558 ke_9_0 ke_9_1 ke_9_2 ke_9_3 ke_9_4 ke_9_5
        clear Okeys_7l0 Yt_19 Gt_19
        replace H := app_hid H
        go_wp2_with fail
        go_roundg m0
        case measure => omega
        case rel => exact ⟨k0 + 1, _, _, _, by omega, by go_num, rfl, H, HBwt_19, Ff2_0__559, Pt_19⟩
end Go.Proofs.Ytgimcnpkngpmiaa.GiKeysWherePostmarkStringiTownOfPostmarkiTownsOn1

/- A row of numbers of one's own that the library's sort or Compact has gone over. No condition. -/
namespace Go.Proofs.Ytgimcnpkngpmiaa.GoS
set_option linter.unusedVariables false
open Go.RowKit
open Go.Proofs.Ytgimcnpkngpmiaa.Turn Go.Proofs.Ytgimcnpkngpmiaa.GoM
def bts (l : List ByteArray) : List (List UInt8) := l.map (·.data.toList)
def unb (l : List (List UInt8)) : List ByteArray := l.map fun x => ⟨x.toArray⟩
theorem bts_len (l : List ByteArray) : (bts l).length = l.length := by simp [bts]
theorem unb_len (l : List (List UInt8)) : (unb l).length = l.length := by simp [unb]
theorem unb_map (l : List (List UInt8)) : (unb l).map Value.string = l.map Go.Proofs.encStr := by
  unfold unb
  rw [List.map_map]; rfl
theorem own_holdsS {b T n c g : Nat} {w : World} {l : List ByteArray} (hn : l.length = n) (h : w.ownsRow b T 1 (.slice (some ⟨g, 0, none⟩) n c) n (l.map Value.string)) : Sort.Holds Go.Proofs.encStr w g 0 (bts l).toArray := by
  intro j hj
  have hj' : j < l.length := by simpa [bts] using hj
  refine ⟨?_, h.frozenAt _⟩
  obtain ⟨ad, ea, hc⟩ := (own_cells h).2 (by rw [List.length_map]; omega)
  obtain rfl := Option.some.inj ea
  have hu : (l.map Value.string)[j]? = some (.string l[j]) := by simp [hj']
  have := hc j _ hu
  rw [add_flat] at this
  simp only [Nat.zero_add] at this ⊢
  rw [this]
  simp [bts, hj', Go.Proofs.encStr]
theorem own_putS {b T n c g : Nat} {w : World} {l : List ByteArray} {m : List (List UInt8)} (hn : l.length = n) (hm : m.length = n) (h : w.ownsRow b T 1 (.slice (some ⟨g, 0, none⟩) n c) n (l.map Value.string)) (q : Nat) :
    (Sort.putRow Go.Proofs.encStr (Sort.ahead w q) g 0 m.toArray).ownsRow b T 1 (.slice (some ⟨g, 0, none⟩) n c) n ((unb m).map Value.string) ∧ w.grownBy (Sort.putRow Go.Proofs.encStr (Sort.ahead w q) g 0 m.toArray) (some g) := by
  have hH := own_holdsS hn h
  rw [Lib.putRow_eq_setCells Go.Proofs.encStr w g 0 (bts l).toArray m q hH (by simp [bts]; omega)]
  have hd : w.grownBy (w.drewN q) (some g) := ⟨rfl, rfl, rfl, Nat.le_refl _, fun _ _ _ => rfl⟩
  have h0 : w.grownBy (w.drewN q) none := ⟨rfl, rfl, rfl, Nat.le_refl _, fun _ _ _ => rfl⟩
  have h1 := h.kept h0 (by simp [Value.ownBlock])
  have hl : (l.map Value.string).length = n := by simp [hn]
  have h2 := Go.Proofs.Ytgimcnpkngpmiaa.GoK.own_setCells (m.map Go.Proofs.encStr) 0 h1 (by rw [List.length_map]; omega)
  have e : (l.map Value.string).take 0 ++ m.map Go.Proofs.encStr ++ (l.map Value.string).drop (0 + (m.map Go.Proofs.encStr).length) = (unb m).map Value.string := by
    rw [List.length_map, Nat.zero_add, hm, List.drop_of_length_le (by omega), unb_map]
    simp
  rw [e] at h2
  exact ⟨h2.1, Aid.grown_tr hd h2.2⟩
theorem grown_grow (w : World) (os : Array Obj) (r : Option Nat) : w.grownBy (Sort.grow w os) r := by
  refine ⟨rfl, rfl, rfl, by simp [Sort.grow], fun k hk _ => ?_⟩
  show (w.heap ++ os)[k]? = w.heap[k]?
  rw [Array.getElem?_append_left hk]
end Go.Proofs.Ytgimcnpkngpmiaa.GoS

/- slices.Sort of texts as a plain function; the contract of the program's. No condition. -/
namespace Go.Proofs.Ytgimcnpkngpmiaa.GxSlicesSortStringString
set_option linter.unusedVariables false
open Go.RowKit
open Go.Proofs.Ytgimcnpkngpmiaa.Turn Go.Proofs.Ytgimcnpkngpmiaa.GoM
def P (x_0 : List ByteArray) : Option (List ByteArray) := if x_0.length < 4611686018427387904 then some (Go.Proofs.Ytgimcnpkngpmiaa.GoS.unb ((Go.Proofs.Ytgimcnpkngpmiaa.GoS.bts x_0).mergeSort fun x y => decide (x ≤ y))) else none
theorem C (x_0 : List ByteArray) (A0 : Option Addr) (c0 : Nat) (b0 : Nat) (w : World) (M0 : Hid (w.ownsRow b0 9 1 (.slice A0 x_0.length c0) x_0.length (x_0.map Value.string))) (N0 : Hid (x_0.length ≤ 9223372036854775807)) {l_ : List ByteArray} (H : Hid (P x_0 = some l_)) :
    Calls Try.prog 69 #[.slice A0 x_0.length c0] w (fun e w' => e = .returned (.tuple #[]) ∧ w'.ownsRow b0 9 1 (.slice A0 x_0.length c0) x_0.length (l_.map Value.string) ∧ l_.length = x_0.length ∧ w.grownBy w' (Value.slice A0 x_0.length c0).ownBlock) := by
  have h : P x_0 = some l_ := H
  unfold P at h
  by_cases hl : x_0.length < 4611686018427387904
  · rw [if_pos hl] at h
    obtain rfl := Option.some.inj h
    have M := M0.out
    by_cases hz : x_0 = []
    · subst hz
      refine (Try.slices_Sort_string_none A0 c0 w).mono ?_
      rintro e w' ⟨rfl, rfl⟩
      have e0 : ((Go.Proofs.Ytgimcnpkngpmiaa.GoS.bts []).mergeSort fun x y => decide (x ≤ y)) = [] := List.eq_nil_of_length_eq_zero (by simp [Go.Proofs.Ytgimcnpkngpmiaa.GoS.bts])
      rw [e0]
      exact ⟨rfl, M, rfl, Aid.grown_refl _ _⟩
    · have hpos : 0 < x_0.length := List.length_pos_iff.2 hz
      obtain ⟨g, rfl⟩ := own_some M hpos
      have hg := (M.lt g (by simp [Value.ownBlock])).2
      have hbl := Go.Proofs.Ytgimcnpkngpmiaa.GoS.bts_len x_0
      have con := Try.slices_Sort_string g 0 c0 (Go.Proofs.Ytgimcnpkngpmiaa.GoS.bts x_0) w (Go.Proofs.Ytgimcnpkngpmiaa.GoS.own_holdsS rfl M) hg (by omega)
      rw [hbl] at con
      refine con.mono ?_
      rintro e w' ⟨rfl, n, os, rfl⟩
      have hm : ((Go.Proofs.Ytgimcnpkngpmiaa.GoS.bts x_0).mergeSort fun x y => decide (x ≤ y)).length = x_0.length := by rw [List.length_mergeSort, hbl]
      obtain ⟨h1, h2⟩ := Go.Proofs.Ytgimcnpkngpmiaa.GoS.own_putS (m := (Go.Proofs.Ytgimcnpkngpmiaa.GoS.bts x_0).mergeSort fun x y => decide (x ≤ y)) rfl hm M n
      have h3 := Go.Proofs.Ytgimcnpkngpmiaa.GoS.grown_grow (Sort.putRow Go.Proofs.encStr (Sort.ahead w n) g 0 ((Go.Proofs.Ytgimcnpkngpmiaa.GoS.bts x_0).mergeSort fun x y => decide (x ≤ y)).toArray) os none
      exact ⟨rfl, h1.kept h3 (by simp [Value.ownBlock]), by rw [Go.Proofs.Ytgimcnpkngpmiaa.GoS.unb_len, hm], Aid.grown_tr h2 (Go.Proofs.Ytgimcnpkngpmiaa.GoS.grown_grow _ os _)⟩
  · rw [if_neg hl] at h; simp at h
end Go.Proofs.Ytgimcnpkngpmiaa.GxSlicesSortStringString

/- slices.Compact of texts as a plain function; the contract of the program's. No condition. -/
namespace Go.Proofs.Ytgimcnpkngpmiaa.GxSlicesCompactStringString
set_option linter.unusedVariables false
open Go.RowKit
open Go.Proofs.Ytgimcnpkngpmiaa.Turn Go.Proofs.Ytgimcnpkngpmiaa.GoM
def P (s_0 : List ByteArray) : Option (List ByteArray) := some (Go.Proofs.Ytgimcnpkngpmiaa.GoS.unb (Lib.compact (Go.Proofs.Ytgimcnpkngpmiaa.GoS.bts s_0)))
theorem C (s_0 : List ByteArray) (A0 : Option Addr) (c0 : Nat) (b0 : Nat) (w : World) (M0 : Hid (w.ownsRow b0 9 1 (.slice A0 s_0.length c0) s_0.length (s_0.map Value.string))) (N0 : Hid (s_0.length ≤ 9223372036854775807)) (LB : Hid (b0 ≤ w.heap.size)) {r : List ByteArray} (H : Hid (P s_0 = some r)) :
    Calls Try.prog 70 #[.slice A0 s_0.length c0] w (fun e w' => ∃ A_r c_r, e = .returned (.slice A_r r.length c_r) ∧ w'.ownsRow b0 9 1 (.slice A_r r.length c_r) r.length (r.map Value.string) ∧ w.grownBy w' (Value.slice A0 s_0.length c0).ownBlock ∧ Go.Proofs.Ytgimcnpkngpmiaa.GoK.From w A0 A_r) := by
  have h : P s_0 = some r := H
  unfold P at h
  obtain rfl := Option.some.inj h
  have M := M0.out
  by_cases hz : s_0 = []
  · subst hz
    refine (Try.slices_Compact_string_empty A0 c0 w).mono ?_
    rintro e w' ⟨rfl, rfl⟩
    exact ⟨A0, c0, rfl, M, Aid.grown_refl _ _, Go.Proofs.Ytgimcnpkngpmiaa.GoK.from_self⟩
  · have hpos : 0 < s_0.length := List.length_pos_iff.2 hz
    obtain ⟨g, rfl⟩ := own_some M hpos
    have hbl := Go.Proofs.Ytgimcnpkngpmiaa.GoS.bts_len s_0
    have hle := Lib.compact_length_le (Go.Proofs.Ytgimcnpkngpmiaa.GoS.bts s_0)
    have hR := own_room M
    have con := Try.slices_Compact_string g 0 c0 (Go.Proofs.Ytgimcnpkngpmiaa.GoS.bts s_0) w (Go.Proofs.Ytgimcnpkngpmiaa.GoS.own_holdsS rfl M) (by have := N0.out; omega) (by have := hR.1; omega)
    rw [hbl] at con
    refine con.mono ?_
    rintro e w' ⟨rfl, q, rfl⟩
    obtain ⟨h1, h2⟩ := Go.Proofs.Ytgimcnpkngpmiaa.GoS.own_putS (m := Lib.compact (Go.Proofs.Ytgimcnpkngpmiaa.GoS.bts s_0) ++ List.replicate (s_0.length - (Lib.compact (Go.Proofs.Ytgimcnpkngpmiaa.GoS.bts s_0)).length) []) rfl (by rw [List.length_append, List.length_replicate]; omega) M q
    obtain ⟨i0, hi, hz0, hz1, hz2⟩ := Aid.info_parts (P := Try.prog) (T := 9) (z := .string ByteArray.empty) (s := 1) (b := 16) (by kernel_rfl)
    have h3 := (slice_head (P := Try.prog) (t := 47) (k := .i64) (hi := ((Lib.compact (Go.Proofs.Ytgimcnpkngpmiaa.GoS.bts s_0)).length : Int)) (m := (Lib.compact (Go.Proofs.Ytgimcnpkngpmiaa.GoS.bts s_0)).length) (ys := (Go.Proofs.Ytgimcnpkngpmiaa.GoS.unb (Lib.compact (Go.Proofs.Ytgimcnpkngpmiaa.GoS.bts s_0))).map Value.string) (by kernel_rfl) (by kernel_rfl) hi hz1 h1 ⟨by omega, by omega⟩ (by omega) (by
      rw [Go.Proofs.Ytgimcnpkngpmiaa.GoS.unb_map, Go.Proofs.Ytgimcnpkngpmiaa.GoS.unb_map, List.map_append, Int.toNat_natCast, Nat.mul_one, List.take_left' (by simp)])).2
    rw [Go.Proofs.Ytgimcnpkngpmiaa.GoS.unb_len]
    exact ⟨_, c0, rfl, h3, h2, Go.Proofs.Ytgimcnpkngpmiaa.GoK.from_self⟩
end Go.Proofs.Ytgimcnpkngpmiaa.GxSlicesCompactStringString

/- loop.example/g01062/impl.TownsOn as a plain function, and the contract of the program's: where the plain one has an answer, the program has it. Conditions: slices read as lists. -/
namespace Go.Proofs.Ytgimcnpkngpmiaa.GiTownsOn
set_option linter.unusedVariables false
set_option linter.unusedSimpArgs false
open Go.RowKit
open Go.Proofs.Ytgimcnpkngpmiaa.Rowed Go.Proofs.Ytgimcnpkngpmiaa.Turn Go.Proofs.Ytgimcnpkngpmiaa.Aid Go.Proofs.Ytgimcnpkngpmiaa.GoP Go.Proofs.Ytgimcnpkngpmiaa.GoM

def P (list : (List Go.Proofs.Ytgimcnpkngpmiaa.PPostmark.Postmark)) (day : Int) : Option ((List ByteArray) × Bool) :=
  Option.bind (Go.Proofs.Ytgimcnpkngpmiaa.GiArePostmarks.P list) fun (t_4 : Bool) =>
  letK (!t_4) fun (t_5 : Bool) =>
  joinK (fun (t_10 : Bool) =>
  iteK t_10
  (some (([] : List ByteArray), false))
  (Option.bind (Go.Proofs.Ytgimcnpkngpmiaa.GiKeysWherePostmarkStringiTownOfPostmarkiTownsOn1.P list day) fun (t_16 : (List ByteArray)) =>
  Option.bind (Go.Proofs.Ytgimcnpkngpmiaa.GxSlicesSortStringString.P t_16) fun (lt_19 : (List ByteArray)) =>
  Option.bind (Go.Proofs.Ytgimcnpkngpmiaa.GxSlicesCompactStringString.P lt_19) fun (t_21 : (List ByteArray)) =>
  some (t_21, true))) fun jt_10 => iteK t_5 (appK jt_10 true) (Option.bind (Go.Proofs.Ytgimcnpkngpmiaa.GiIsDay.P day) fun (t_8 : Bool) =>
  letK (!t_8) fun (t_9 : Bool) =>
  appK jt_10 t_9)

set_option maxRecDepth 100000 in
set_option maxHeartbeats 2000000 in
theorem C (list : (List Go.Proofs.Ytgimcnpkngpmiaa.PPostmark.Postmark)) (day : Int) (A0 : Option Addr) (c0 : Nat)  (w : World) (M0 : Hid (Cells w 6 A0 list.length (Go.Proofs.Ytgimcnpkngpmiaa.PPostmark.flat list))) (N0 : Hid (list.length ≤ 9223372036854775807))  {r0 : (List ByteArray)} {r1 : Bool} (H : Hid (P list day = some (r0, r1))) :
    Calls Try.prog 32 #[.slice A0 list.length c0, .int .i64 day] w (fun e w' => ∃ A_r0 c_r0, e = .returned (.tuple #[.slice A_r0 r0.length c_r0, .bool r1]) ∧ w'.ownsRow w.heap.size 9 1 (.slice A_r0 r0.length c_r0) r0.length (r0.map Value.string) ∧ Below w.heap.size w w') := by
  have HB := Lib.hid (Below.refl w.heap.size w)
  unfold P at H
  have N0o := N0.out
  go_enter Try.func32, Try.ntmps32
  obtain ⟨w_day_0, hw_day_0⟩ : ∃ x, w.alloc (.cells #[.int .i64 day] 3) = x := ⟨_, rfl⟩
  have bw_day_0 : Below w.heap.size w w_day_0 := by rw [← hw_day_0]; exact (Below.refl _ _).alloc (Nat.le_refl _) _
  have HBw_day_0 := Lib.hid (Below.step HB.out bw_day_0)
  clear bw_day_0
  have kday_0_0 : w_day_0.cell? ⟨w.heap.size, 0, none⟩ = some (.int .i64 day) := by rw [← hw_day_0]; exact box_new _ _ _ 0 _ rfl
  replace H := bind_hid H
  obtain ⟨t_4, qt_4, H⟩ := H
  go_wp2_with fail
  go_at_call 19
  refine (Go.Proofs.Ytgimcnpkngpmiaa.GiArePostmarks.C (list) A0 c0 _   (Lib.hid (Cells.below M0.out HBw_day_0.out)) N0 qt_4).mono ?_
  rintro e_t_4 wt_4 ⟨rfl, bt_4⟩
  have HBwt_4 := Lib.hid (Below.step HBw_day_0.out bt_4)
  replace kday_0_0 := cell_below bt_4 kday_0_0
  clear bt_4
  cases t_4 with
  | false =>
    replace H := let_hid H
    obtain ⟨t_5, ht_5, H⟩ := H
    obtain rfl : t_5 = true := ht_5.symm
    replace H := join_hid H
    replace H := ite_t H
    replace H := app_hid H
    replace H := ite_t H
    obtain ⟨w_t_11, hw_t_11⟩ : ∃ x, wt_4.alloc (.cells #[] 9) = x := ⟨_, rfl⟩
    have bw_t_11 : Below wt_4.heap.size wt_4 w_t_11 := by rw [← hw_t_11]; exact (Below.refl _ _).alloc (Nat.le_refl _) _
    have Ot_11 : Hid (w_t_11.ownsRow w.heap.size 9 1 (.slice (some ⟨wt_4.heap.size, 0, none⟩) 0 0) 0 []) := Lib.hid (by rw [← hw_t_11]; exact own_empty HBwt_4.out.size)
    have Dt_11_day_0 := Lib.hid (apart_box kday_0_0)
    have HBw_t_11 := Lib.hid (Below.step HBwt_4.out bw_t_11)
    have kday_0_0__572 := cell_below bw_t_11 kday_0_0
    clear bw_t_11
    cases ret_hid H
    go_wp2_with fail
    go_ret2
    exact ⟨(some ⟨wt_4.heap.size, 0, none⟩), 0, rfl, Ot_11.out, HBw_t_11.out⟩
  | true =>
    replace H := let_hid H
    obtain ⟨t_5, ht_5, H⟩ := H
    obtain rfl : t_5 = false := ht_5.symm
    replace H := join_hid H
    replace H := ite_f H
    replace H := bind_hid H
    obtain ⟨t_8, qt_8, H⟩ := H
    go_wp2_with fail
    go_at_call 43
    refine (Go.Proofs.Ytgimcnpkngpmiaa.GiIsDay.C (day)  _    qt_8).mono ?_
    rintro e_t_8 wt_8 ⟨rfl, bt_8⟩
    have HBwt_8 := Lib.hid (Below.step HBwt_4.out bt_8)
    replace kday_0_0 := cell_below bt_8 kday_0_0
    clear bt_8
    cases t_8 with
    | false =>
      replace H := let_hid H
      obtain ⟨t_9, ht_9, H⟩ := H
      obtain rfl : t_9 = true := ht_9.symm
      replace H := app_hid H
      replace H := ite_t H
      obtain ⟨w_t_11, hw_t_11⟩ : ∃ x, wt_8.alloc (.cells #[] 9) = x := ⟨_, rfl⟩
      have bw_t_11 : Below wt_8.heap.size wt_8 w_t_11 := by rw [← hw_t_11]; exact (Below.refl _ _).alloc (Nat.le_refl _) _
      have Ot_11 : Hid (w_t_11.ownsRow w.heap.size 9 1 (.slice (some ⟨wt_8.heap.size, 0, none⟩) 0 0) 0 []) := Lib.hid (by rw [← hw_t_11]; exact own_empty HBwt_8.out.size)
      have Dt_11_day_0 := Lib.hid (apart_box kday_0_0)
      have HBw_t_11 := Lib.hid (Below.step HBwt_8.out bw_t_11)
      have kday_0_0__573 := cell_below bw_t_11 kday_0_0
      clear bw_t_11
      cases ret_hid H
      go_wp2_with fail
      go_ret2
      exact ⟨(some ⟨wt_8.heap.size, 0, none⟩), 0, rfl, Ot_11.out, HBw_t_11.out⟩
    | true =>
      replace H := let_hid H
      obtain ⟨t_9, ht_9, H⟩ := H
      obtain rfl : t_9 = false := ht_9.symm
      replace H := app_hid H
      replace H := ite_f H
      replace H := bind_hid H
      obtain ⟨t_16, qt_16, H⟩ := H
      go_wp2_with fail
      go_at_call 65
      refine (Go.Proofs.Ytgimcnpkngpmiaa.GiKeysWherePostmarkStringiTownOfPostmarkiTownsOn1.C (list) (day) A0 c0 (w.heap.size) _   (Lib.hid (Cells.below M0.out HBwt_8.out)) N0 (Lib.hid kday_0_0) qt_16).mono ?_
      rintro e_t_16 wt_16 ⟨At_16, ct_16, rfl, ot_16, bt_16⟩
      have Dt_16_day_0 := Lib.hid (apart_callbox ot_16 kday_0_0)
      have Ot_16 := Lib.hid (own_lower ot_16 HBwt_8.out.size)
      clear ot_16
      have HBwt_16 := Lib.hid (Below.step HBwt_8.out bt_16)
      replace kday_0_0 := cell_below bt_16 kday_0_0
      clear bt_16
      replace H := bind_hid H
      obtain ⟨lt_19, qt_19, H⟩ := H
      go_wp2_with fail
      go_at_call 69
      refine (Go.Proofs.Ytgimcnpkngpmiaa.GxSlicesSortStringString.C (t_16) At_16 ct_16 w.heap.size _   Ot_16 (Lib.hid (own_max Ot_16.out))   qt_19).mono ?_
      rintro e_t_19 wt_19 ⟨rfl, ot_19, nt_19, gt_19⟩
      have Pt_19 := Lib.hid ot_19
      have Gt_19 := Lib.hid gt_19
      replace nt_19 := Lib.hid nt_19
      clear ot_19 gt_19
      have HBwt_19 := Lib.hid (HBwt_16.out.grown Gt_19.out HBwt_16.out.size (fun q hq => (Ot_16.out.lt q hq).1))
      replace kday_0_0 := cell_other kday_0_0 Gt_19.out Dt_16_day_0.out
      clear Ot_16 Gt_19
      go_wp2_with fail
      have hc_ := nt_19.out
      have hv_ : (Value.slice At_16 t_16.length ct_16 : Value) = Value.slice At_16 lt_19.length ct_16 := by rw [hc_]
      try rw [hv_]
      replace Pt_19 := Lib.hid (own_len hc_ Pt_19.out)
      clear hc_ hv_
      replace H := bind_hid H
      obtain ⟨t_21, qt_21, H⟩ := H
      go_wp2_with fail
      go_at_call 70
      refine (Go.Proofs.Ytgimcnpkngpmiaa.GxSlicesCompactStringString.C (lt_19) At_16 ct_16 w.heap.size _   Pt_19 (Lib.hid (own_max Pt_19.out)) (Lib.hid HBwt_19.out.size)  qt_21).mono ?_
      rintro e_t_21 wt_21 ⟨At_21, ct_21, rfl, ot_21, gt_21, yt_21⟩
      have Pt_21 := Lib.hid ot_21
      have Gt_21 := Lib.hid gt_21
      replace yt_21 := Lib.hid yt_21
      clear ot_21 gt_21
      have HBwt_21 := Lib.hid (HBwt_19.out.grown Gt_21.out HBwt_19.out.size (fun q hq => (Pt_19.out.lt q hq).1))
      have Dt_21_day_0 : Hid (Apart At_21 _) := Lib.hid (Go.Proofs.Ytgimcnpkngpmiaa.GoK.apart_from Dt_16_day_0.out (fun a_ ha_ => by cases ha_; exact cell_lt kday_0_0) yt_21.out)
      replace kday_0_0 := cell_other kday_0_0 Gt_21.out Dt_16_day_0.out
      clear Pt_19 Gt_21 yt_21
      cases ret_hid H
      go_wp2_with fail
      go_ret2
      exact ⟨At_21, ct_21, rfl, Pt_21.out, HBwt_21.out⟩
end Go.Proofs.Ytgimcnpkngpmiaa.GiTownsOn

/- Watermarks of papers: the plain functions of the program and of the reference agree, and the law answers true. (QTexts) No condition but those of each theorem. -/
namespace Go.Proofs.Ytgimcnpkngpmiaa.QTexts
set_option linter.unusedVariables false
set_option linter.unusedSimpArgs false
open Go.RowKit
open Go.Proofs.Ytgimcnpkngpmiaa.GoP Go.Proofs.Ytgimcnpkngpmiaa.PlainStamp Go.Proofs.Ytgimcnpkngpmiaa.QBase Go.Proofs.Ytgimcnpkngpmiaa.QOrd Go.Proofs.Ytgimcnpkngpmiaa.QLoop

theorem list_le (x y : List UInt8) : decide (x ≤ y) = !(Op.bytesLess y x) := by
  rw [bytesLess_eq, Bool.eq_iff_iff]
  simp [List.not_lt]
/-- in strictly rising order -/
def strict (l : List ByteArray) : Prop := List.Pairwise (fun a b => bl a b = true) l
theorem bl_asymm {a b : ByteArray} (h : bl a b = true) : bl b a = false := by
  cases hb : bl b a with
  | false => rfl
  | true => have := bl_trans h hb; rw [bl_self] at this; exact absurd this (by simp)
/-- two strictly rising lists of the same texts are the same -/
theorem strict_ext : ∀ {l m : List ByteArray}, strict l → strict m → (∀ x, x ∈ l ↔ x ∈ m) → l = m := by
  intro l
  induction l with
  | nil =>
    intro m _ _ h
    cases m with
    | nil => rfl
    | cons y m => exact absurd ((h y).2 (by simp)) (by simp)
  | cons x l ih =>
    intro m hl hm h
    cases m with
    | nil => exact absurd ((h x).1 (by simp)) (by simp)
    | cons y m =>
      unfold strict at hl hm
      rw [List.pairwise_cons] at hl hm
      have hxy : x = y := by
        rcases List.mem_cons.1 ((h x).1 (by simp)) with e | hx
        · exact e
        · rcases List.mem_cons.1 ((h y).2 (by simp)) with e | hy
          · exact e.symm
          · have h1 := hm.1 x hx
            have h2 := hl.1 y hy
            rw [bl_asymm h1] at h2; exact absurd h2 (by simp)
      subst hxy
      have hnx : ∀ {k : List ByteArray}, (∀ z ∈ k, bl x z = true) → ¬ x ∈ k := by
        intro k hk hx
        have := hk x hx
        rw [bl_self] at this; exact absurd this (by simp)
      rw [ih hl.2 hm.2 (fun z => ?_)]
      constructor
      · intro hz
        rcases List.mem_cons.1 ((h z).1 (by simp [hz])) with e | h1
        · subst e; exact absurd hz (hnx hl.1)
        · exact h1
      · intro hz
        rcases List.mem_cons.1 ((h z).2 (by simp [hz])) with e | h1
        · subst e; exact absurd hz (hnx hm.1)
        · exact h1
theorem comp_keyS (l : List (List UInt8)) (hs : List.Pairwise (fun a b => Op.bytesLess b a = false) l) : ∀ m, m ≤ l.length → List.Pairwise (fun a b => Op.bytesLess a b = true) (Lib.compactUpTo l.toArray m) ∧ (∀ x, x ∈ Lib.compactUpTo l.toArray m ↔ ∃ j, j < m ∧ l[j]? = some x) := by
  intro m
  induction m with
  | zero => intro _; simp [Lib.compactUpTo]
  | succ m ih =>
    intro hm
    obtain ⟨h1, h2⟩ := ih (by omega)
    have hle : ∀ {i j : Nat} {x y : List UInt8}, i ≤ j → l[i]? = some x → l[j]? = some y → Op.bytesLess y x = false := by
      intro i j x y hij hx hy
      obtain ⟨a1, a2⟩ := List.getElem?_eq_some_iff.1 hx
      obtain ⟨b1, b2⟩ := List.getElem?_eq_some_iff.1 hy
      by_cases he : i = j
      · subst he; rw [hx] at hy; obtain rfl := Option.some.inj hy; exact bl_self' _
      · have := List.pairwise_iff_getElem.1 hs i j a1 b1 (by omega)
        rw [a2, b2] at this; exact this
    have hx : l[m]? = some l[m] := List.getElem?_eq_getElem (by omega)
    have g : l.toArray[m]! = l[m] := by simp [hx]
    rw [Lib.compactUpTo_succ]
    by_cases hk : Lib.keeps l.toArray m = true
    · rw [if_pos hk, g]
      have hlt : ∀ x, x ∈ Lib.compactUpTo l.toArray m → Op.bytesLess x l[m] = true := by
        intro x hxm
        obtain ⟨j, hj, hjx⟩ := (h2 x).1 hxm
        have hp : m - 1 < l.length := by omega
        have h3 := hle (i := j) (j := m - 1) (by omega) hjx (List.getElem?_eq_getElem hp)
        have h4 := hle (i := m - 1) (j := m) (by omega) (List.getElem?_eq_getElem hp) hx
        have h5 : l[m-1] ≠ l[m] := by
          unfold Lib.keeps at hk
          rw [decide_eq_true_eq] at hk
          rcases hk with h0 | h0
          · omega
          · rw [g] at h0
            have : l.toArray[m-1]! = l[m-1] := by simp [List.getElem?_eq_getElem hp]
            rw [this] at h0; exact fun e => h0 e.symm
        have h6 : Op.bytesLess l[m-1] l[m] = true := by rw [bl_total' _ _ h5, h4]; rfl
        by_cases e : x = l[m-1]
        · rw [e]; exact h6
        · exact bl_trans' _ _ _ (by rw [bl_total' _ _ e, h3]; rfl) h6
      refine ⟨List.pairwise_append.2 ⟨h1, by simp, fun a ha b hb => by simp at hb; subst hb; exact hlt a ha⟩, fun x => ?_⟩
      rw [List.mem_append, h2, List.mem_singleton]
      constructor
      · rintro (⟨j, hj, hjx⟩ | rfl)
        · exact ⟨j, by omega, hjx⟩
        · exact ⟨m, by omega, hx⟩
      · rintro ⟨j, hj, hjx⟩
        by_cases he : j = m
        · subst he; rw [hx] at hjx; simp at hjx; exact Or.inr hjx.symm
        · exact Or.inl ⟨j, by omega, hjx⟩
    · rw [if_neg hk, List.append_nil]
      refine ⟨h1, fun x => ?_⟩
      rw [h2]
      constructor
      · rintro ⟨j, hj, hjx⟩; exact ⟨j, by omega, hjx⟩
      · rintro ⟨j, hj, hjx⟩
        by_cases he : j = m
        · subst he
          have hm0 : ¬ (j = 0) ∧ l.toArray[j]! = l.toArray[j-1]! := by
            unfold Lib.keeps at hk
            simpa using hk
          have hp : j - 1 < l.length := by omega
          have h6 : l.toArray[j-1]! = l[j-1] := by simp [List.getElem?_eq_getElem hp]
          rw [hx] at hjx
          refine ⟨j - 1, by omega, ?_⟩
          rw [List.getElem?_eq_getElem hp, ← hjx, ← g, hm0.2, h6]
        · exact ⟨j, by omega, hjx⟩
/-- sorted, and each text once -/
def sorted (l : List ByteArray) : List ByteArray := GoS.unb (Lib.compact (GoS.bts (GoS.unb ((GoS.bts l).mergeSort fun x y => decide (x ≤ y)))))
theorem bts_unb (l : List (List UInt8)) : GoS.bts (GoS.unb l) = l := by
  unfold GoS.bts GoS.unb
  rw [List.map_map]
  have : ((fun x : ByteArray => x.data.toList) ∘ fun x : List UInt8 => (⟨x.toArray⟩ : ByteArray)) = id := by funext x; rfl
  rw [this, List.map_id]
theorem sorted_facts (l : List ByteArray) : strict (sorted l) ∧ (∀ x, x ∈ sorted l ↔ x ∈ l) ∧ (sorted l).length ≤ l.length := by
  unfold sorted
  rw [bts_unb]
  obtain ⟨ss, hss⟩ : ∃ ss, ((GoS.bts l).mergeSort fun x y => decide (x ≤ y)) = ss := ⟨_, rfl⟩
  have hlen : ss.length = l.length := by rw [← hss, List.length_mergeSort, GoS.bts_len]
  have hmem : ∀ x, x ∈ ss ↔ x ∈ GoS.bts l := fun x => by rw [← hss]; exact List.mem_mergeSort
  have hs : List.Pairwise (fun a b => Op.bytesLess b a = false) ss := by
    have h := List.pairwise_mergeSort (le := fun x y : List UInt8 => decide (x ≤ y)) (fun a b c h1 h2 => by
      rw [list_le] at h1 h2 ⊢
      simp only [Bool.not_eq_true'] at h1 h2 ⊢
      cases h3 : Op.bytesLess c a with
      | false => rfl
      | true =>
        by_cases e : b = c
        · subst e; rw [h3] at h1; exact absurd h1 (by simp)
        · have h4 : Op.bytesLess b c = true := by rw [bl_total' _ _ e, h2]; rfl
          have := bl_trans' _ _ _ h4 h3
          rw [this] at h1; exact absurd h1 (by simp)) (fun a b => by
      rw [list_le, list_le]
      by_cases e : a = b
      · subst e; rw [bl_self']; rfl
      · rw [bl_total' _ _ e]; cases Op.bytesLess b a <;> rfl) (GoS.bts l)
    rw [hss] at h
    exact h.imp (fun h => by rw [list_le] at h; simpa using h)
  rw [hss]
  obtain ⟨k1, k2⟩ := comp_keyS ss hs ss.length (Nat.le_refl _)
  refine ⟨?_, fun x => ?_, ?_⟩
  · unfold strict GoS.unb
    rw [List.pairwise_map]
    exact k1.imp (fun {a b} h => by unfold bl; rw [ByteArray.toList_eq, ByteArray.toList_eq]; exact h)
  · unfold GoS.unb
    rw [List.mem_map]
    constructor
    · rintro ⟨y, hy, rfl⟩
      obtain ⟨j, _, hj⟩ := (k2 y).1 hy
      have h3 := (hmem y).1 (List.mem_of_getElem? hj)
      unfold GoS.bts at h3
      obtain ⟨z, hz, rfl⟩ := List.mem_map.1 h3
      exact hz
    · intro hx
      have h3 : x.data.toList ∈ ss := (hmem _).2 (List.mem_map.2 ⟨x, hx, rfl⟩)
      obtain ⟨j, hj⟩ := List.getElem?_of_mem h3
      exact ⟨x.data.toList, (k2 _).2 ⟨j, (List.getElem?_eq_some_iff.1 hj).1, hj⟩, rfl⟩
  · rw [GoS.unb_len]
    have := Lib.compact_length_le ss
    omega
theorem sort_comp {l : List ByteArray} (h : l.length ≤ 1000000) : (Option.bind (GxSlicesSortStringString.P l) fun m => GxSlicesCompactStringString.P m) = some (sorted l) := by
  unfold GxSlicesSortStringString.P
  rw [if_pos (by omega)]; rfl
end Go.Proofs.Ytgimcnpkngpmiaa.QTexts

/- A loop that gathers what a test lets through: the plain loop's answer. (QGath) No condition but those of each theorem. -/
namespace Go.Proofs.Ytgimcnpkngpmiaa.QGath
set_option linter.unusedVariables false
open Go.RowKit
open Go.Proofs.Ytgimcnpkngpmiaa.GoP Go.Proofs.Ytgimcnpkngpmiaa.QBase Go.Proofs.Ytgimcnpkngpmiaa.QLoop

theorem gather {α β R : Type} {l : List α} {p : α → Bool} {g : α → β} {f : Nat → List β → (List β → Option R) → (List β → Option R) → Option R} {fin : List β → Option R} (hl : l.length ≤ 1099511627776)
    (step : ∀ k nx x s, l[k]? = some x → s.length ≤ 1099511627776 → f k s nx fin = nx (if p x then s ++ [g x] else s)) : cntK f l.length 0 [] fin = fin ((l.filter p).map g) := by
  have key : ∀ m k, k + m = l.length → cntK f m k (((l.take k).filter p).map g) fin = fin ((l.filter p).map g) := by
    intro m
    induction m with
    | zero => intro k hk; obtain rfl : k = l.length := by omega
              rw [List.take_of_length_le (Nat.le_refl _)]; rfl
    | succ m ih =>
      intro k hk
      obtain ⟨x, hx, _⟩ := at_lt (l := l) (k := k) (by omega)
      show f k _ _ fin = _
      have hle : (((l.take k).filter p).map g).length ≤ 1099511627776 := by
        rw [List.length_map]
        have := List.length_filter_le p (l.take k)
        rw [List.length_take] at this
        omega
      rw [step k _ x _ hx hle, ← ih (k + 1) (by omega), take_next hx, List.filter_append, List.map_append]
      cases hp : p x <;> simp [List.filter, hp]
  exact key l.length 0 (by omega)
end Go.Proofs.Ytgimcnpkngpmiaa.QGath

/- Chapter 11: postmarks: the plain functions of the program and of the reference agree, and the laws answer true. (Q11Towns) No condition but those of each theorem. -/
namespace Go.Proofs.Ytgimcnpkngpmiaa.Q11Towns
set_option linter.unusedVariables false
set_option linter.unusedSimpArgs false
open Go.RowKit
open Go.Proofs.Ytgimcnpkngpmiaa.GoP Go.Proofs.Ytgimcnpkngpmiaa.PlainStamp Go.Proofs.Ytgimcnpkngpmiaa.QBase Go.Proofs.Ytgimcnpkngpmiaa.QTexts Go.Proofs.Ytgimcnpkngpmiaa.QOrd Go.Proofs.Ytgimcnpkngpmiaa.QAll Go.Proofs.Ytgimcnpkngpmiaa.Q11List Go.Proofs.Ytgimcnpkngpmiaa.Q11Mark Go.Proofs.Ytgimcnpkngpmiaa.QUp Go.Proofs.Ytgimcnpkngpmiaa.QLoop Go.Proofs.Ytgimcnpkngpmiaa.PPostmark Go.Proofs.Ytgimcnpkngpmiaa.QGath

def usedB (day : Int) (x : Postmark) : Bool := inB day x.first x.last
def towns (day : Int) (l : List Postmark) : List ByteArray := (l.filter (usedB day)).map Postmark.town
def townsRes (l : List Postmark) (day : Int) : List ByteArray × Bool := if (okPms l && inB day 0 4000) = true then (sorted (towns day l), true) else ([], false)
theorem towns_len (day : Int) (l : List Postmark) : (towns day l).length ≤ l.length := by unfold towns; rw [List.length_map]; exact List.length_filter_le _ _
theorem used_impl (x : Postmark) (day : Int) : GiWasUsedOn.P x day = some (usedB day x) := by
  obtain ⟨a, b, c, d, e, g⟩ := x
  simp only [GiWasUsedOn.P, unPostmark, within_eq, Option.bind_some, usedB]
theorem used_spec (x : Postmark) (day : Int) : GsL11Used.P (Postmark.mk x.id x.town x.kind_ x.first x.last x.lost) day = some (usedB day x) := by
  simp only [GsL11Used.P, unPostmark, l1In_eq, Option.bind_some, usedB]
theorem towns_impl (l : List Postmark) (hf : ∀ s ∈ l, s.fits) (day : Int) : GiTownsOn.P l day = some (townsRes l day) := by
  simp only [GiTownsOn.P, arePostmarks_eq l hf, isDay_eq, Option.bind_some, letK, joinK, appK, iteK_if, townsRes]
  cases hc : okPms l with
  | false => simp
  | true =>
    cases hd : inB day 0 4000 with
    | false => simp
    | true =>
      have h12 : l.length ≤ 12 := upL_len hc
      have hk : GiKeysWherePostmarkStringiTownOfPostmarkiTownsOn1.P l day = some (towns day l) := by
        simp only [GiKeysWherePostmarkStringiTownOfPostmarkiTownsOn1.P]
        rw [gather (p := usedB day) (g := Postmark.town) (by omega)]
        · rfl
        · intro k nx x s hx hs
          have hi : idx l (k : Int) = some x := by rw [idx_nat, hx]
          have hu := used_impl x day
          simp only [GiKeysWherePostmarkStringiTownOfPostmarkiTownsOn1.l0, letK, hi, Option.bind_some, unPostmark, GiTownsOn1.P, GiTownOfPostmark.P, hu, appK, iteK_if]
          rw [guardK_pos hs]
          cases usedB day x <;> rfl
      have hl := towns_len day l
      have hsc := sort_comp (l := towns day l) (by omega)
      simp only [hk, Option.bind_some, Bool.not_true, Bool.and_true, Bool.false_eq_true, if_false, if_true]
      cases hs : GxSlicesSortStringString.P (towns day l) with
      | none => rw [hs] at hsc; simp at hsc
      | some m =>
        rw [hs, Option.bind_some] at hsc
        simp only [Option.bind_some, hsc]
theorem find_any {l : List ByteArray} {n : ByteArray} {R : Type} (e : Bool → Option R) (f : Nat → Bool → (Bool → Option R) → (Bool → Option R) → Option R) (b : Bool)
    (step : ∀ k nx x b, l[k]? = some x → f k b nx e = nx (b || decide (x = n))) : cntK f l.length 0 b e = e (b || l.any fun x => decide (x = n)) := by
  have key : ∀ m k b, k + m = l.length → cntK f m k b e = e (b || (l.drop k).any fun x => decide (x = n)) := by
    intro m
    induction m with
    | zero => intro k b hk; rw [List.drop_of_length_le (by omega)]; simp [cntK]
    | succ m ih =>
      intro k b hk
      obtain ⟨x, hx, _⟩ := at_lt (l := l) (k := k) (by omega)
      obtain ⟨hlt, e1⟩ := List.getElem?_eq_some_iff.1 hx
      show f k b _ e = _
      rw [step k _ x b hx, ih (k + 1) _ (by omega), List.drop_eq_getElem_cons hlt, e1, List.any_cons, Bool.or_assoc]
  exact key l.length 0 b (by omega)
theorem towns_spec (fuel : Nat) (hfu : 100 ≤ fuel) (l : List Postmark) (hf : ∀ s ∈ l, s.fits) (hl : l.length ≤ 9223372036854775807) (day : Int) : GsTownsOn.P fuel l day = some (townsRes l day) := by
  simp only [GsTownsOn.P, l11Good_eq fuel hfu l hf hl, l2Day_eq, Option.bind_some, letK, joinK, appK, iteK_if, townsRes]
  cases hc : okPms l with
  | false => simp
  | true =>
   cases hd : inB day 0 4000 with
   | false => simp
   | true =>
    have h12 : l.length ≤ 12 := upL_len hc
    simp only [Bool.not_true, Bool.and_true, Bool.false_eq_true, if_false, if_true]
    refine cnt_is _ (fun k (s : List ByteArray) => strict s ∧ (∀ x, x ∈ s ↔ x ∈ towns day (l.take k)) ∧ s.length ≤ k) ?_ ?_ _ ⟨List.Pairwise.nil, fun x => by simp [towns], by simp⟩
    · intro k s nx hk ⟨h1, h2, h3⟩ hn
      obtain ⟨p, hp, hi⟩ := at_lt (l := l) (k := k) hk
      obtain ⟨nm, hnm⟩ : ∃ nm, p.town = nm := ⟨_, rfl⟩
      have hmk : ∀ x, x ∈ towns day (l.take (k + 1)) ↔ x ∈ towns day (l.take k) ∨ (usedB day p = true ∧ x = nm) := by
        intro x
        unfold towns
        rw [take_next hp, List.filter_append, List.map_append, List.mem_append]
        cases he : usedB day p with
        | true => simp [List.filter, hnm, he]
        | false => simp [List.filter, hnm, he]
      simp only [GsTownsOn.l0, letK, hi, Option.bind_some, unPostmark, used_spec, hnm]
      rw [find_any (n := nm) (GsTownsOn.e1 fuel nx s nm) (GsTownsOn.l1 s nm) (!usedB day p) (by
        intro k1 nx1 x b hx
        have hi1 : idx s (k1 : Int) = some x := by rw [idx_nat, hx]
        simp only [GsTownsOn.l1, letK, hi1, Option.bind_some, joinK, appK, iteK_if, eq_list]
        cases b <;> simp)]
      obtain ⟨kn, hkn⟩ : ∃ kn, (!usedB day p || s.any fun x => decide (x = nm)) = kn := ⟨_, rfl⟩
      rw [hkn]
      simp only [GsTownsOn.e1, letK]
      have fin : ∀ q : Nat, q ≤ s.length → (∀ i x, q ≤ i → s[i]? = some x → bl nm x = true) → (∀ x, 0 < q → s[q-1]? = some x → bl nm x = false) → GsTownsOn.e2 nx s nm kn (q : Int) = some (sorted (towns day l), true) := by
        intro q hq hup hlo
        simp only [GsTownsOn.e2, letK, iteK_if]
        cases kn with
        | true =>
          simp only [Bool.not_true, Bool.false_eq_true, if_false, appK]
          refine hn _ ⟨h1, fun x => ?_, by omega⟩
          rw [hmk, ← h2]
          constructor
          · exact Or.inl
          · rintro (h | ⟨he, rfl⟩)
            · exact h
            · rw [he, Bool.not_true, Bool.false_or, List.any_eq_true] at hkn
              obtain ⟨y, hy, e⟩ := hkn
              simp only [decide_eq_true_eq] at e
              rw [← e]; exact hy
        | false =>
          simp only [Bool.or_eq_false_iff] at hkn
          obtain ⟨hne0, hni⟩ := hkn
          have hne : usedB day p = true := by simpa using hne0
          have hnin : ¬ nm ∈ s := by
            intro hm
            rw [List.any_eq_false] at hni
            exact hni nm hm (by simp)
          simp only [Bool.not_false, if_true, appK, List.nil_append, Int.toNat_natCast]
          rw [guardK_pos (by omega), guardK_pos (by simp; omega), guardK_pos (by simp; omega), guardK_pos (by omega), guardK_pos (by simp; omega)]
          have hlow : ∀ x ∈ s.take q, bl x nm = true := by
            intro x hx
            obtain ⟨i, hi⟩ := List.getElem?_of_mem hx
            have hil := (List.getElem?_eq_some_iff.1 hi).1
            rw [List.length_take] at hil
            rw [List.getElem?_take_of_lt (by omega)] at hi
            obtain ⟨y, hy, _⟩ := at_lt (l := s) (k := q - 1) (by omega)
            have hny := hlo y (by omega) hy
            have hyn : bl y nm = true := by
              have hne2 : y ≠ nm := fun e => hnin (e ▸ List.mem_of_getElem? hy)
              rw [bl_total hne2, hny]; rfl
            by_cases e : i = q - 1
            · subst e; rw [hi] at hy; obtain rfl := Option.some.inj hy; exact hyn
            · obtain ⟨a1, a2⟩ := List.getElem?_eq_some_iff.1 hi
              obtain ⟨b1, b2⟩ := List.getElem?_eq_some_iff.1 hy
              have := List.pairwise_iff_getElem.1 h1 i (q - 1) a1 b1 (by omega)
              rw [a2, b2] at this
              exact bl_trans this hyn
          have hhigh : ∀ x ∈ s.drop q, bl nm x = true := by
            intro x hx
            obtain ⟨i, hi⟩ := List.getElem?_of_mem hx
            rw [List.getElem?_drop] at hi
            exact hup (q + i) x (by omega) hi
          refine hn _ ⟨?_, fun x => ?_, ?_⟩
          · refine List.pairwise_append.2 ⟨List.pairwise_append.2 ⟨List.Pairwise.sublist (List.take_sublist _ _) h1, by simp, fun a ha b hb => by simp at hb; subst hb; exact hlow a ha⟩, List.Pairwise.sublist (List.drop_sublist _ _) h1, fun a ha b hb => ?_⟩
            rw [List.mem_append, List.mem_singleton] at ha
            rcases ha with ha | rfl
            · exact bl_trans (hlow a ha) (hhigh b hb)
            · exact hhigh b hb
          · rw [hmk, ← h2, List.mem_append, List.mem_append, List.mem_singleton]
            have hs : x ∈ s ↔ x ∈ s.take q ∨ x ∈ s.drop q := by rw [← List.mem_append, List.take_append_drop]
            rw [hs]
            constructor
            · rintro ((h | rfl) | h)
              · exact .inl (.inl h)
              · exact .inr ⟨hne, rfl⟩
              · exact .inl (.inr h)
            · rintro ((h | h) | ⟨_, rfl⟩)
              · exact .inl (.inl h)
              · exact .inr h
              · exact .inl (.inr rfl)
          · simp; omega
      refine lp_is (n := s.length) _ (fun j (i : Int) => ∃ q : Nat, i = (q : Int) ∧ q + j = s.length ∧ ∀ i' x, q ≤ i' → s[i']? = some x → bl nm x = true) ?_ ?_ fuel 0 _ (by omega) (by omega) ⟨s.length, rfl, by omega, fun i' x h hx => by have := (List.getElem?_eq_some_iff.1 hx).1; omega⟩
      · rintro j i nx2 hj ⟨q, rfl, hq, hup⟩ hn2
        obtain ⟨y, hy, _⟩ := at_lt (l := s) (k := q - 1) (by omega)
        have hq0 : (0 : Int) < (q : Int) := by omega
        have hw : IntKind.i64.wrap ((q : Int) - 1) = ((q - 1 : Nat) : Int) := by rw [wrap_in (by omega) (by omega)]; omega
        have hiq : idx s ((q - 1 : Nat) : Int) = some y := by rw [idx_nat, hy]
        simp only [GsTownsOn.l2, letK, decide_eq_true hq0, joinK, appK, iteK_if, if_true, hw, hiq, Option.bind_some, bl_lt]
        cases hb : bl nm y with
        | true =>
          simp only [if_true]
          refine hn2 _ ⟨q - 1, rfl, by omega, fun i' x h hx => ?_⟩
          by_cases e : i' = q - 1
          · subst e; rw [hy] at hx; obtain rfl := Option.some.inj hx; exact hb
          · exact hup i' x (by omega) hx
        | false =>
          simp only [Bool.false_eq_true, if_false]
          exact fin q (by omega) hup (fun x _ hx => by rw [hy] at hx; obtain rfl := Option.some.inj hx; exact hb)
      · rintro i nx2 ⟨q, rfl, hq, hup⟩
        obtain rfl : q = 0 := by omega
        have hq0 : ¬ ((0 : Int) < ((0 : Nat) : Int)) := by omega
        simp only [GsTownsOn.l2, letK, decide_eq_false hq0, joinK, appK, iteK_if, Bool.false_eq_true, if_false]
        exact fin 0 (by omega) hup (fun x h _ => by omega)
    · intro s ⟨h1, h2, _⟩
      rw [List.take_of_length_le (Nat.le_refl _)] at h2
      obtain ⟨k1, k2, _⟩ := sorted_facts (towns day l)
      simp only [GsTownsOn.e0, letK]
      rw [strict_ext h1 k1 (fun x => (h2 x).trans (k2 x).symm)]
theorem townsRes_len (l : List Postmark) (day : Int) : (townsRes l day).1.length ≤ 12 := by
  unfold townsRes
  split
  · rename_i h
    simp only [Bool.and_eq_true] at h
    have h1 : l.length ≤ 12 := upL_len h.1
    have h2 := (sorted_facts (towns day l)).2.2
    have h3 := towns_len day l
    dsimp only; omega
  · simp
end Go.Proofs.Ytgimcnpkngpmiaa.Q11Towns

