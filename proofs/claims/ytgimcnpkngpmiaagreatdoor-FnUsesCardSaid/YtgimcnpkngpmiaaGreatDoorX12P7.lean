/- Texts on which the proofs of several laws stand, one behind the other (7 of 13). No condition of their own. -/
import Derived.Test.YtgimcnpkngpmiaaGreatDoorChecked
import Derived.Test.YtgimcnpkngpmiaaGreatDoorX12P1
import Derived.Test.YtgimcnpkngpmiaaGreatDoorX12P2
import Derived.Test.YtgimcnpkngpmiaaGreatDoorX12P6
import Derived.WalkKit
import Derived.WalkSpells
import Derived.WalkLawsBesides
import Derived.BigQuiet
import Derived.OwnWalk
import Derived.Deep.LoopGhost
import Derived.Deep.QuietTactic
import Derived.IntWalk
import Derived.Lib.QuietBelow
import Derived.Test.YtgimcnpkngpmiaaGreatDoorX12P5
import Derived.Lib.RowBridge
import Derived.Sort.EncStr
import Derived.Test.YtgimcnpkngpmiaaGreatDoorX12P4
import Derived.Deep.AppendLies
import Derived.Shelf.SlSortCmp.SmallK
import Derived.Ground.SlsfProg
import Derived.Test.YtgimcnpkngpmiaaGreatDoorProg
/- loop.example/g01062/impl.keysWhere[loop.example/g01062/impl.Postmark,string] as a plain function, and the contract of the program's: where the plain one has an answer, the program has it. Conditions: slices read as lists. -/
namespace Go.Proofs.YtgimcnpkngpmiaaGreatDoor.GiKeysWherePostmarkStringiTownOfPostmarkiTownsOn1
set_option linter.unusedVariables false
set_option linter.unusedSimpArgs false
open Go.RowKit
open Go.Proofs.YtgimcnpkngpmiaaGreatDoor.Rowed Go.Proofs.YtgimcnpkngpmiaaGreatDoor.Turn Go.Proofs.YtgimcnpkngpmiaaGreatDoor.Aid Go.Proofs.YtgimcnpkngpmiaaGreatDoor.GoP Go.Proofs.YtgimcnpkngpmiaaGreatDoor.GoM

def l0 (list : (List Go.Proofs.YtgimcnpkngpmiaaGreatDoor.PPostmark.Postmark)) (hf2_0 : Int) (k0 : Nat) (s : (List ByteArray)) (nx0 bk0 : (List ByteArray) → Option ((List ByteArray))) : Option ((List ByteArray)) :=
  letK s fun keys_7l0 =>
  Option.bind (idx list (k0 : Int)) fun (yt_7 : Go.Proofs.YtgimcnpkngpmiaaGreatDoor.PPostmark.Postmark) =>
  unPostmark yt_7 fun (t_7_id : Int) (t_7_town : ByteArray) (t_7_kind_ : Int) (t_7_first : Int) (t_7_last : Int) (t_7_lost : ByteArray) =>
  Option.bind (Go.Proofs.YtgimcnpkngpmiaaGreatDoor.GiTownsOn1.P (Go.Proofs.YtgimcnpkngpmiaaGreatDoor.PPostmark.Postmark.mk t_7_id t_7_town t_7_kind_ t_7_first t_7_last t_7_lost) hf2_0) fun (t_13 : Bool) =>
  iteK t_13
  (Option.bind (Go.Proofs.YtgimcnpkngpmiaaGreatDoor.GiTownOfPostmark.P (Go.Proofs.YtgimcnpkngpmiaaGreatDoor.PPostmark.Postmark.mk t_7_id t_7_town t_7_kind_ t_7_first t_7_last t_7_lost)) fun (t_17 : ByteArray) =>
  guardK (keys_7l0.length ≤ 1099511627776) <|
  letK (keys_7l0 ++ [t_17]) fun (t_19 : (List ByteArray)) =>
  appK nx0 (t_19))
  (appK nx0 (keys_7l0))

def e0  (s : (List ByteArray)) : Option ((List ByteArray)) :=
  letK s fun keys_7l0 =>
  some keys_7l0

def P (list : (List Go.Proofs.YtgimcnpkngpmiaaGreatDoor.PPostmark.Postmark)) (hf2_0 : Int) : Option ((List ByteArray)) :=
  cntK (l0 list hf2_0) (list.length) 0 (([] : List ByteArray)) (e0 )

set_option maxRecDepth 100000 in
set_option maxHeartbeats 2000000 in
theorem C (list : (List Go.Proofs.YtgimcnpkngpmiaaGreatDoor.PPostmark.Postmark)) (hf2_0 : Int) (A0 : Option Addr) (c0 : Nat) (gf2_0 : Nat) (w : World) (M0 : Hid (Cells w 6 A0 list.length (Go.Proofs.YtgimcnpkngpmiaaGreatDoor.PPostmark.flat list))) (N0 : Hid (list.length ≤ 9223372036854775807)) (Ff2_0h : Hid (w.cell? ⟨gf2_0, 0, none⟩ = some (.int .i64 hf2_0))) {r : (List ByteArray)} (H : Hid (P list hf2_0 = some r)) :
    Calls Tryz.prog 32 #[.slice A0 list.length c0, .func (.func 33) #[] #[], .func (.func 34) #[] #[.pointer (some ⟨gf2_0, 0, none⟩)]] w (fun e w' => ∃ A_r c_r, e = .returned (.slice A_r r.length c_r) ∧ w'.ownsRow w.heap.size 9 1 (.slice A_r r.length c_r) r.length (r.map Value.string) ∧ Below w.heap.size w w') := by
  have HB := Lib.hid (Below.refl w.heap.size w)
  unfold P at H
  have N0o := N0.out
  have Ff2_0 := Ff2_0h.out
  obtain ⟨i0_9, hi_9, hz0_9, hz1_9, hz2_9⟩ := Aid.info_parts (P := Tryz.prog) (T := 9) (z := .string ByteArray.empty) (s := 1) (b := 16) (by kernel_rfl)
  go_enter Tryz.func32, Tryz.ntmps32
  obtain ⟨w_t_1, hw_t_1⟩ : ∃ x, w.alloc (.cells #[] 9) = x := ⟨_, rfl⟩
  have bw_t_1 : Below w.heap.size w w_t_1 := by rw [← hw_t_1]; exact (Below.refl _ _).alloc (Nat.le_refl _) _
  have Ot_1 : Hid (w_t_1.ownsRow w.heap.size 9 1 (.slice (some ⟨w.heap.size, 0, none⟩) 0 0) 0 []) := Lib.hid (by rw [← hw_t_1]; exact own_empty HB.out.size)
  have HBw_t_1 := Lib.hid (Below.step HB.out bw_t_1)
  have Ff2_0__438 := cell_below bw_t_1 Ff2_0
  clear bw_t_1
  go_wp2_with fail
  clear Ff2_0
  go_loopg [13, 7] (list.length) (fun m_ v13_ v7_ wr => ∃ (k0 : Nat) (keys_7l0 : (List ByteArray)) (Akeys_7l0 : Option Addr) (ckeys_7l0 : Nat), k0 + m_ = list.length ∧ v13_ = .int .i64 (k0 : Int) ∧ v7_ = .slice Akeys_7l0 keys_7l0.length ckeys_7l0 ∧ Hid (cntK (l0 list hf2_0) m_ k0 (keys_7l0) (e0 ) = some r) ∧ Hid (Below w.heap.size w wr) ∧ wr.cell? ⟨gf2_0, 0, none⟩ = some (.int .i64 hf2_0) ∧ Hid (wr.ownsRow w.heap.size 9 1 (.slice Akeys_7l0 keys_7l0.length ckeys_7l0) keys_7l0.length (keys_7l0.map Value.string)))
  case atStart => exact ⟨0, _, _, _, by omega, rfl, rfl, H, HBw_t_1, Ff2_0__438, Ot_1⟩
  case round =>
    obtain ⟨k0, keys_7l0, Akeys_7l0, ckeys_7l0, hkm0, rfl, rfl, H, HBwr0, Ff2_0__438, Okeys_7l0⟩ := hrel
    rename World => wr0
    cases gk with
    | zero =>
      obtain rfl : k0 = list.length := by omega
      have hc0 : decide (((list.length : Nat) : Int) < ((list.length : Nat) : Int)) = false := by simp
      replace H := cnt_zero H
      unfold e0 at H
      replace H := let_hid H
      obtain ⟨_, rfl, H⟩ := H
      obtain rfl := ret_hid H
      go_wp2_with fail
      go_ret
      exact ⟨Akeys_7l0, ckeys_7l0, rfl, Okeys_7l0.out, HBwr0.out⟩
    | succ m0 =>
      have hlt0 : k0 < list.length := by omega
      have hc0 : decide ((k0 : Int) < ((list.length : Nat) : Int)) = true := by simp; omega
      replace H := cnt_succ H
      unfold l0 at H
      replace H := let_hid H
      obtain ⟨_, rfl, H⟩ := H
      replace H := idx_hid H
      obtain ⟨nt_7, yt_7, et_7, lt_7, gt_7, H⟩ := H
      obtain rfl : k0 = nt_7 := by omega
      clear et_7
      obtain ⟨t_7_id, t_7_town, t_7_kind_, t_7_first, t_7_last, t_7_lost⟩ := yt_7
      replace H := unPostmark_hid H
      obtain ⟨ab_t_7, ao_t_7, zt_7, At_7, z_t_7, ct_7_0, ct_7_1, ct_7_2, ct_7_3, ct_7_4, ct_7_5⟩ := Go.Proofs.YtgimcnpkngpmiaaGreatDoor.OPostmark.at_ M0.out lt_7
      obtain rfl := Option.some.inj (gt_7.out.symm.trans z_t_7)
      subst At_7
      have ltt_7 := cell_lt ct_7_0
      replace ct_7_0 := cell_below HBwr0.out ct_7_0
      replace ct_7_1 := cell_below HBwr0.out ct_7_1
      replace ct_7_2 := cell_below HBwr0.out ct_7_2
      replace ct_7_3 := cell_below HBwr0.out ct_7_3
      replace ct_7_4 := cell_below HBwr0.out ct_7_4
      replace ct_7_5 := cell_below HBwr0.out ct_7_5
      clear z_t_7
      have b0t_7 : (0 : Int) ≤ (k0 : Int) := by omega
      have b1t_7 : (k0 : Int) < ((list.length : Nat) : Int) := by omega
      have b2t_7 : ((k0 : Int)).toNat = k0 := by omega
      obtain ⟨w_e_9, hw_e_9⟩ : ∃ x, wr0.alloc (.cells #[.int .i64 t_7_id, .string t_7_town, .int .i64 t_7_kind_, .int .i64 t_7_first, .int .i64 t_7_last, .string t_7_lost] 34) = x := ⟨_, rfl⟩
      have bw_e_9 : Below wr0.heap.size wr0 w_e_9 := by rw [← hw_e_9]; exact (Below.refl _ _).alloc (Nat.le_refl _) _
      have De_9_keys_7l0 := Lib.hid (apart_fresh Okeys_7l0.out)
      have HBw_e_9 := Lib.hid (Below.step HBwr0.out bw_e_9)
      have Ff2_0__439 := cell_below bw_e_9 Ff2_0__438
      have ct_7_0__440 := cell_below bw_e_9 ct_7_0
      have ct_7_1__441 := cell_below bw_e_9 ct_7_1
      have ct_7_2__442 := cell_below bw_e_9 ct_7_2
      have ct_7_3__443 := cell_below bw_e_9 ct_7_3
      have ct_7_4__444 := cell_below bw_e_9 ct_7_4
      have ct_7_5__445 := cell_below bw_e_9 ct_7_5
      replace Okeys_7l0 := Lib.hid (own_below Okeys_7l0.out bw_e_9)
      clear bw_e_9
      have ke_9_0 : w_e_9.cell? ⟨wr0.heap.size, 0, none⟩ = some (.int .i64 t_7_id) := by rw [← hw_e_9]; exact box_new _ _ _ 0 _ rfl
      have ke_9_1 : w_e_9.cell? ⟨wr0.heap.size, 1, none⟩ = some (.string t_7_town) := by rw [← hw_e_9]; exact box_new _ _ _ 1 _ rfl
      have ke_9_2 : w_e_9.cell? ⟨wr0.heap.size, 2, none⟩ = some (.int .i64 t_7_kind_) := by rw [← hw_e_9]; exact box_new _ _ _ 2 _ rfl
      have ke_9_3 : w_e_9.cell? ⟨wr0.heap.size, 3, none⟩ = some (.int .i64 t_7_first) := by rw [← hw_e_9]; exact box_new _ _ _ 3 _ rfl
      have ke_9_4 : w_e_9.cell? ⟨wr0.heap.size, 4, none⟩ = some (.int .i64 t_7_last) := by rw [← hw_e_9]; exact box_new _ _ _ 4 _ rfl
      have ke_9_5 : w_e_9.cell? ⟨wr0.heap.size, 5, none⟩ = some (.string t_7_lost) := by rw [← hw_e_9]; exact box_new _ _ _ 5 _ rfl
      replace H := bind_hid H
      obtain ⟨t_13, qt_13, H⟩ := H
      go_wp2_with fail
      clear Ff2_0__438 ct_7_0 ct_7_1 ct_7_2 ct_7_3 ct_7_4 ct_7_5
      go_at_call 34
      refine (Go.Proofs.YtgimcnpkngpmiaaGreatDoor.GiTownsOn1.C ((Go.Proofs.YtgimcnpkngpmiaaGreatDoor.PPostmark.Postmark.mk t_7_id t_7_town t_7_kind_ t_7_first t_7_last t_7_lost)) (hf2_0) (gf2_0) _   (Lib.hid Ff2_0__439) qt_13).mono ?_
      rintro e_t_13 wt_13 ⟨rfl, bt_13⟩
      have HBwt_13 := Lib.hid (Below.step HBw_e_9.out bt_13)
      replace Ff2_0__439 := cell_below bt_13 Ff2_0__439
      replace ct_7_0__440 := cell_below bt_13 ct_7_0__440
      replace ct_7_1__441 := cell_below bt_13 ct_7_1__441
      replace ct_7_2__442 := cell_below bt_13 ct_7_2__442
      replace ct_7_3__443 := cell_below bt_13 ct_7_3__443
      replace ct_7_4__444 := cell_below bt_13 ct_7_4__444
      replace ct_7_5__445 := cell_below bt_13 ct_7_5__445
      replace ke_9_0 := cell_below bt_13 ke_9_0
      replace ke_9_1 := cell_below bt_13 ke_9_1
      replace ke_9_2 := cell_below bt_13 ke_9_2
      replace ke_9_3 := cell_below bt_13 ke_9_3
      replace ke_9_4 := cell_below bt_13 ke_9_4
      replace ke_9_5 := cell_below bt_13 ke_9_5
      replace Okeys_7l0 := Lib.hid (own_below Okeys_7l0.out bt_13)
      clear bt_13
      cases t_13 with
      | false =>
        replace H := ite_f H
        replace H := app_hid H
        go_wp2_with fail
        go_roundg m0
        case measure => omega
        case rel => exact ⟨k0 + 1, _, _, _, by omega, by go_num, rfl, H, HBwt_13, Ff2_0__439, Okeys_7l0⟩
      | true =>
        replace H := ite_t H
        replace H := bind_hid H
        obtain ⟨t_17, qt_17, H⟩ := H
        go_wp2_with fail
        go_at_call 33
        refine (Go.Proofs.YtgimcnpkngpmiaaGreatDoor.GiTownOfPostmark.C ((Go.Proofs.YtgimcnpkngpmiaaGreatDoor.PPostmark.Postmark.mk t_7_id t_7_town t_7_kind_ t_7_first t_7_last t_7_lost))  _    qt_17).mono ?_
        rintro e_t_17 wt_17 ⟨rfl, bt_17⟩
        have HBwt_17 := Lib.hid (Below.step HBwt_13.out bt_17)
        replace Ff2_0__439 := cell_below bt_17 Ff2_0__439
        replace ct_7_0__440 := cell_below bt_17 ct_7_0__440
        replace ct_7_1__441 := cell_below bt_17 ct_7_1__441
        replace ct_7_2__442 := cell_below bt_17 ct_7_2__442
        replace ct_7_3__443 := cell_below bt_17 ct_7_3__443
        replace ct_7_4__444 := cell_below bt_17 ct_7_4__444
        replace ct_7_5__445 := cell_below bt_17 ct_7_5__445
        replace ke_9_0 := cell_below bt_17 ke_9_0
        replace ke_9_1 := cell_below bt_17 ke_9_1
        replace ke_9_2 := cell_below bt_17 ke_9_2
        replace ke_9_3 := cell_below bt_17 ke_9_3
        replace ke_9_4 := cell_below bt_17 ke_9_4
        replace ke_9_5 := cell_below bt_17 ke_9_5
        replace Okeys_7l0 := Lib.hid (own_below Okeys_7l0.out bt_17)
        clear bt_17
        obtain ⟨w_t_18, hw_t_18⟩ : ∃ x, wt_17.alloc (.cells #[.string t_17] 9) = x := ⟨_, rfl⟩
        have bw_t_18 : Below wt_17.heap.size wt_17 w_t_18 := by rw [← hw_t_18]; exact (Below.refl _ _).alloc (Nat.le_refl _) _
        have HBw_t_18 := Lib.hid (Below.step HBwt_17.out bw_t_18)
        have Ff2_0__446 := cell_below bw_t_18 Ff2_0__439
        have ct_7_0__447 := cell_below bw_t_18 ct_7_0__440
        have ct_7_1__448 := cell_below bw_t_18 ct_7_1__441
        have ct_7_2__449 := cell_below bw_t_18 ct_7_2__442
        have ct_7_3__450 := cell_below bw_t_18 ct_7_3__443
        have ct_7_4__451 := cell_below bw_t_18 ct_7_4__444
        have ct_7_5__452 := cell_below bw_t_18 ct_7_5__445
        have ke_9_0__453 := cell_below bw_t_18 ke_9_0
        have ke_9_1__454 := cell_below bw_t_18 ke_9_1
        have ke_9_2__455 := cell_below bw_t_18 ke_9_2
        have ke_9_3__456 := cell_below bw_t_18 ke_9_3
        have ke_9_4__457 := cell_below bw_t_18 ke_9_4
        have ke_9_5__458 := cell_below bw_t_18 ke_9_5
        replace Okeys_7l0 := Lib.hid (own_below Okeys_7l0.out bw_t_18)
        clear bw_t_18
        replace H := guard_hid H
        obtain ⟨hlt_19, H⟩ := H
        replace H := let_hid H
        obtain ⟨t_19, ht_19, H⟩ := H
        have hht_19 := Lib.hid ht_19
        clear ht_19
        have hst_19 := HBw_t_18.out.size
        go_wp2_with (at_builtin; refine wpList_append_own_at _ rfl _ _ 30 rfl w.heap.size 9 i0_9 (.string ByteArray.empty) 1 16 Tryz.underlying30 hi_9 hz0_9 hz1_9 hz2_9 rfl (by decide) _ _ _ rfl Okeys_7l0.out ⟨wt_17.heap.size, 0, none⟩ 1 1 [.string t_17] rfl rfl (news_new hw_t_18) (one_cells rfl) (by unfold maxLen; omega) (by omega) hst_19 ?_; intro vt_19 wt_19 ot_19 gt_19 zt_19 yt_19; clear zt_19; obtain ⟨qt_19, ct_19, rfl, pt_19⟩ := own_push hht_19.out (by simp) rfl ot_19; have Pt_19 := Lib.hid pt_19; have Yt_19 := Lib.hid yt_19; have Gt_19 := Lib.hid gt_19; clear ot_19 gt_19 pt_19 yt_19; refine stop_in ?_)
        refine stop_out ?_
        have HBwt_19 := Lib.hid (HBw_t_18.out.grown Gt_19.out hst_19 (fun q hq => (Okeys_7l0.out.lt q hq).1))
        clear hst_19
        have Dt_19_e_9 : Hid (Apart (some ⟨qt_19, 0, none⟩) _) := Lib.hid (apart_app (Apart.symm De_9_keys_7l0.out) (fun a_ ha_ => by cases ha_; exact cell_lt ke_9_0__453) Yt_19.out)
        replace Ff2_0__446 := cell_below HBwt_19.out Ff2_0h.out
        replace ct_7_0__447 := cell_other ct_7_0__447 Gt_19.out (apart_old Okeys_7l0.out ltt_7)
        replace ct_7_1__448 := cell_other ct_7_1__448 Gt_19.out (apart_old Okeys_7l0.out ltt_7)
        replace ct_7_2__449 := cell_other ct_7_2__449 Gt_19.out (apart_old Okeys_7l0.out ltt_7)
        replace ct_7_3__450 := cell_other ct_7_3__450 Gt_19.out (apart_old Okeys_7l0.out ltt_7)
        replace ct_7_4__451 := cell_other ct_7_4__451 Gt_19.out (apart_old Okeys_7l0.out ltt_7)
        replace ct_7_5__452 := cell_other ct_7_5__452 Gt_19.out (apart_old Okeys_7l0.out ltt_7)
        replace ke_9_0__453 := cell_other ke_9_0__453 Gt_19.out (Apart.symm De_9_keys_7l0.out)
        replace ke_9_1__454 := cell_other ke_9_1__454 Gt_19.out (Apart.symm De_9_keys_7l0.out)
        replace ke_9_2__455 := cell_other ke_9_2__455 Gt_19.out (Apart.symm De_9_keys_7l0.out)
        replace ke_9_3__456 := cell_other ke_9_3__456 Gt_19.out (Apart.symm De_9_keys_7l0.out)
        replace ke_9_4__457 := cell_other ke_9_4__457 Gt_19.out (Apart.symm De_9_keys_7l0.out)
        replace ke_9_5__458 := cell_other ke_9_5__458 Gt_19.out (Apart.symm De_9_keys_7l0.out)
        clear Ff2_0__439 ct_7_0__440 ct_7_1__441 ct_7_2__442 ct_7_3__443 ct_7_4__444 ct_7_5__445 ke_9_0 ke_9_1 ke_9_2 ke_9_3 ke_9_4 ke_9_5
        clear Okeys_7l0 Yt_19 Gt_19
        replace H := app_hid H
        go_wp2_with fail
        go_roundg m0
        case measure => omega
        case rel => exact ⟨k0 + 1, _, _, _, by omega, by go_num, rfl, H, HBwt_19, Ff2_0__446, Pt_19⟩
end Go.Proofs.YtgimcnpkngpmiaaGreatDoor.GiKeysWherePostmarkStringiTownOfPostmarkiTownsOn1

/- A row of numbers of one's own that the library's sort or Compact has gone over. No condition. -/
namespace Go.Proofs.YtgimcnpkngpmiaaGreatDoor.GoS
set_option linter.unusedVariables false
open Go.RowKit
open Go.Proofs.YtgimcnpkngpmiaaGreatDoor.Turn Go.Proofs.YtgimcnpkngpmiaaGreatDoor.GoM
def bts (l : List ByteArray) : List (List UInt8) := l.map (·.data.toList)
def unb (l : List (List UInt8)) : List ByteArray := l.map fun x => ⟨x.toArray⟩
theorem bts_len (l : List ByteArray) : (bts l).length = l.length := by simp [bts]
theorem unb_len (l : List (List UInt8)) : (unb l).length = l.length := by simp [unb]
theorem unb_map (l : List (List UInt8)) : (unb l).map Value.string = l.map Go.Proofs.encStr := by
  unfold unb
  rw [List.map_map]; rfl
theorem own_holdsS {b T n c g : Nat} {w : World} {l : List ByteArray} (hn : l.length = n) (h : w.ownsRow b T 1 (.slice (some ⟨g, 0, none⟩) n c) n (l.map Value.string)) : Sort.Holds Go.Proofs.encStr w g 0 (bts l).toArray := by
  intro j hj
  have hj' : j < l.length := by simpa [bts] using hj
  refine ⟨?_, h.frozenAt _⟩
  obtain ⟨ad, ea, hc⟩ := (own_cells h).2 (by rw [List.length_map]; omega)
  obtain rfl := Option.some.inj ea
  have hu : (l.map Value.string)[j]? = some (.string l[j]) := by simp [hj']
  have := hc j _ hu
  rw [add_flat] at this
  simp only [Nat.zero_add] at this ⊢
  rw [this]
  simp [bts, hj', Go.Proofs.encStr]
theorem own_putS {b T n c g : Nat} {w : World} {l : List ByteArray} {m : List (List UInt8)} (hn : l.length = n) (hm : m.length = n) (h : w.ownsRow b T 1 (.slice (some ⟨g, 0, none⟩) n c) n (l.map Value.string)) (q : Nat) :
    (Sort.putRow Go.Proofs.encStr (Sort.ahead w q) g 0 m.toArray).ownsRow b T 1 (.slice (some ⟨g, 0, none⟩) n c) n ((unb m).map Value.string) ∧ w.grownBy (Sort.putRow Go.Proofs.encStr (Sort.ahead w q) g 0 m.toArray) (some g) := by
  have hH := own_holdsS hn h
  rw [Lib.putRow_eq_setCells Go.Proofs.encStr w g 0 (bts l).toArray m q hH (by simp [bts]; omega)]
  have hd : w.grownBy (w.drewN q) (some g) := ⟨rfl, rfl, rfl, Nat.le_refl _, fun _ _ _ => rfl⟩
  have h0 : w.grownBy (w.drewN q) none := ⟨rfl, rfl, rfl, Nat.le_refl _, fun _ _ _ => rfl⟩
  have h1 := h.kept h0 (by simp [Value.ownBlock])
  have hl : (l.map Value.string).length = n := by simp [hn]
  have h2 := Go.Proofs.YtgimcnpkngpmiaaGreatDoor.GoK.own_setCells (m.map Go.Proofs.encStr) 0 h1 (by rw [List.length_map]; omega)
  have e : (l.map Value.string).take 0 ++ m.map Go.Proofs.encStr ++ (l.map Value.string).drop (0 + (m.map Go.Proofs.encStr).length) = (unb m).map Value.string := by
    rw [List.length_map, Nat.zero_add, hm, List.drop_of_length_le (by omega), unb_map]
    simp
  rw [e] at h2
  exact ⟨h2.1, Aid.grown_tr hd h2.2⟩
theorem grown_grow (w : World) (os : Array Obj) (r : Option Nat) : w.grownBy (Sort.grow w os) r := by
  refine ⟨rfl, rfl, rfl, by simp [Sort.grow], fun k hk _ => ?_⟩
  show (w.heap ++ os)[k]? = w.heap[k]?
  rw [Array.getElem?_append_left hk]
end Go.Proofs.YtgimcnpkngpmiaaGreatDoor.GoS

/- slices.Sort of texts as a plain function; the contract of the program's. No condition. -/
namespace Go.Proofs.YtgimcnpkngpmiaaGreatDoor.GxSlicesSortStringString
set_option linter.unusedVariables false
open Go.RowKit
open Go.Proofs.YtgimcnpkngpmiaaGreatDoor.Turn Go.Proofs.YtgimcnpkngpmiaaGreatDoor.GoM
def P (x_0 : List ByteArray) : Option (List ByteArray) := if x_0.length < 4611686018427387904 then some (Go.Proofs.YtgimcnpkngpmiaaGreatDoor.GoS.unb ((Go.Proofs.YtgimcnpkngpmiaaGreatDoor.GoS.bts x_0).mergeSort fun x y => decide (x ≤ y))) else none
theorem C (x_0 : List ByteArray) (A0 : Option Addr) (c0 : Nat) (b0 : Nat) (w : World) (M0 : Hid (w.ownsRow b0 9 1 (.slice A0 x_0.length c0) x_0.length (x_0.map Value.string))) (N0 : Hid (x_0.length ≤ 9223372036854775807)) {l_ : List ByteArray} (H : Hid (P x_0 = some l_)) :
    Calls Tryz.prog 36 #[.slice A0 x_0.length c0] w (fun e w' => e = .returned (.tuple #[]) ∧ w'.ownsRow b0 9 1 (.slice A0 x_0.length c0) x_0.length (l_.map Value.string) ∧ l_.length = x_0.length ∧ w.grownBy w' (Value.slice A0 x_0.length c0).ownBlock) := by
  have h : P x_0 = some l_ := H
  unfold P at h
  by_cases hl : x_0.length < 4611686018427387904
  · rw [if_pos hl] at h
    obtain rfl := Option.some.inj h
    have M := M0.out
    by_cases hz : x_0 = []
    · subst hz
      refine (Tryz.slices_Sort_string_none A0 c0 w).mono ?_
      rintro e w' ⟨rfl, rfl⟩
      have e0 : ((Go.Proofs.YtgimcnpkngpmiaaGreatDoor.GoS.bts []).mergeSort fun x y => decide (x ≤ y)) = [] := List.eq_nil_of_length_eq_zero (by simp [Go.Proofs.YtgimcnpkngpmiaaGreatDoor.GoS.bts])
      rw [e0]
      exact ⟨rfl, M, rfl, Aid.grown_refl _ _⟩
    · have hpos : 0 < x_0.length := List.length_pos_iff.2 hz
      obtain ⟨g, rfl⟩ := own_some M hpos
      have hg := (M.lt g (by simp [Value.ownBlock])).2
      have hbl := Go.Proofs.YtgimcnpkngpmiaaGreatDoor.GoS.bts_len x_0
      have con := Tryz.slices_Sort_string g 0 c0 (Go.Proofs.YtgimcnpkngpmiaaGreatDoor.GoS.bts x_0) w (Go.Proofs.YtgimcnpkngpmiaaGreatDoor.GoS.own_holdsS rfl M) hg (by omega)
      rw [hbl] at con
      refine con.mono ?_
      rintro e w' ⟨rfl, n, os, rfl⟩
      have hm : ((Go.Proofs.YtgimcnpkngpmiaaGreatDoor.GoS.bts x_0).mergeSort fun x y => decide (x ≤ y)).length = x_0.length := by rw [List.length_mergeSort, hbl]
      obtain ⟨h1, h2⟩ := Go.Proofs.YtgimcnpkngpmiaaGreatDoor.GoS.own_putS (m := (Go.Proofs.YtgimcnpkngpmiaaGreatDoor.GoS.bts x_0).mergeSort fun x y => decide (x ≤ y)) rfl hm M n
      have h3 := Go.Proofs.YtgimcnpkngpmiaaGreatDoor.GoS.grown_grow (Sort.putRow Go.Proofs.encStr (Sort.ahead w n) g 0 ((Go.Proofs.YtgimcnpkngpmiaaGreatDoor.GoS.bts x_0).mergeSort fun x y => decide (x ≤ y)).toArray) os none
      exact ⟨rfl, h1.kept h3 (by simp [Value.ownBlock]), by rw [Go.Proofs.YtgimcnpkngpmiaaGreatDoor.GoS.unb_len, hm], Aid.grown_tr h2 (Go.Proofs.YtgimcnpkngpmiaaGreatDoor.GoS.grown_grow _ os _)⟩
  · rw [if_neg hl] at h; simp at h
end Go.Proofs.YtgimcnpkngpmiaaGreatDoor.GxSlicesSortStringString

/- slices.Compact of texts as a plain function; the contract of the program's. No condition. -/
namespace Go.Proofs.YtgimcnpkngpmiaaGreatDoor.GxSlicesCompactStringString
set_option linter.unusedVariables false
open Go.RowKit
open Go.Proofs.YtgimcnpkngpmiaaGreatDoor.Turn Go.Proofs.YtgimcnpkngpmiaaGreatDoor.GoM
def P (s_0 : List ByteArray) : Option (List ByteArray) := some (Go.Proofs.YtgimcnpkngpmiaaGreatDoor.GoS.unb (Lib.compact (Go.Proofs.YtgimcnpkngpmiaaGreatDoor.GoS.bts s_0)))
theorem C (s_0 : List ByteArray) (A0 : Option Addr) (c0 : Nat) (b0 : Nat) (w : World) (M0 : Hid (w.ownsRow b0 9 1 (.slice A0 s_0.length c0) s_0.length (s_0.map Value.string))) (N0 : Hid (s_0.length ≤ 9223372036854775807)) (LB : Hid (b0 ≤ w.heap.size)) {r : List ByteArray} (H : Hid (P s_0 = some r)) :
    Calls Tryz.prog 37 #[.slice A0 s_0.length c0] w (fun e w' => ∃ A_r c_r, e = .returned (.slice A_r r.length c_r) ∧ w'.ownsRow b0 9 1 (.slice A_r r.length c_r) r.length (r.map Value.string) ∧ w.grownBy w' (Value.slice A0 s_0.length c0).ownBlock ∧ Go.Proofs.YtgimcnpkngpmiaaGreatDoor.GoK.From w A0 A_r) := by
  have h : P s_0 = some r := H
  unfold P at h
  obtain rfl := Option.some.inj h
  have M := M0.out
  by_cases hz : s_0 = []
  · subst hz
    refine (Tryz.slices_Compact_string_empty A0 c0 w).mono ?_
    rintro e w' ⟨rfl, rfl⟩
    exact ⟨A0, c0, rfl, M, Aid.grown_refl _ _, Go.Proofs.YtgimcnpkngpmiaaGreatDoor.GoK.from_self⟩
  · have hpos : 0 < s_0.length := List.length_pos_iff.2 hz
    obtain ⟨g, rfl⟩ := own_some M hpos
    have hbl := Go.Proofs.YtgimcnpkngpmiaaGreatDoor.GoS.bts_len s_0
    have hle := Lib.compact_length_le (Go.Proofs.YtgimcnpkngpmiaaGreatDoor.GoS.bts s_0)
    have hR := own_room M
    have con := Tryz.slices_Compact_string g 0 c0 (Go.Proofs.YtgimcnpkngpmiaaGreatDoor.GoS.bts s_0) w (Go.Proofs.YtgimcnpkngpmiaaGreatDoor.GoS.own_holdsS rfl M) (by have := N0.out; omega) (by have := hR.1; omega)
    rw [hbl] at con
    refine con.mono ?_
    rintro e w' ⟨rfl, q, rfl⟩
    obtain ⟨h1, h2⟩ := Go.Proofs.YtgimcnpkngpmiaaGreatDoor.GoS.own_putS (m := Lib.compact (Go.Proofs.YtgimcnpkngpmiaaGreatDoor.GoS.bts s_0) ++ List.replicate (s_0.length - (Lib.compact (Go.Proofs.YtgimcnpkngpmiaaGreatDoor.GoS.bts s_0)).length) []) rfl (by rw [List.length_append, List.length_replicate]; omega) M q
    obtain ⟨i0, hi, hz0, hz1, hz2⟩ := Aid.info_parts (P := Tryz.prog) (T := 9) (z := .string ByteArray.empty) (s := 1) (b := 16) (by kernel_rfl)
    have h3 := (slice_head (P := Tryz.prog) (t := 30) (k := .i64) (hi := ((Lib.compact (Go.Proofs.YtgimcnpkngpmiaaGreatDoor.GoS.bts s_0)).length : Int)) (m := (Lib.compact (Go.Proofs.YtgimcnpkngpmiaaGreatDoor.GoS.bts s_0)).length) (ys := (Go.Proofs.YtgimcnpkngpmiaaGreatDoor.GoS.unb (Lib.compact (Go.Proofs.YtgimcnpkngpmiaaGreatDoor.GoS.bts s_0))).map Value.string) (by kernel_rfl) (by kernel_rfl) hi hz1 h1 ⟨by omega, by omega⟩ (by omega) (by
      rw [Go.Proofs.YtgimcnpkngpmiaaGreatDoor.GoS.unb_map, Go.Proofs.YtgimcnpkngpmiaaGreatDoor.GoS.unb_map, List.map_append, Int.toNat_natCast, Nat.mul_one, List.take_left' (by simp)])).2
    rw [Go.Proofs.YtgimcnpkngpmiaaGreatDoor.GoS.unb_len]
    exact ⟨_, c0, rfl, h3, h2, Go.Proofs.YtgimcnpkngpmiaaGreatDoor.GoK.from_self⟩
end Go.Proofs.YtgimcnpkngpmiaaGreatDoor.GxSlicesCompactStringString

/- loop.example/g01062/impl.TownsOn as a plain function, and the contract of the program's: where the plain one has an answer, the program has it. Conditions: slices read as lists. -/
namespace Go.Proofs.YtgimcnpkngpmiaaGreatDoor.GiTownsOn
set_option linter.unusedVariables false
set_option linter.unusedSimpArgs false
open Go.RowKit
open Go.Proofs.YtgimcnpkngpmiaaGreatDoor.Rowed Go.Proofs.YtgimcnpkngpmiaaGreatDoor.Turn Go.Proofs.YtgimcnpkngpmiaaGreatDoor.Aid Go.Proofs.YtgimcnpkngpmiaaGreatDoor.GoP Go.Proofs.YtgimcnpkngpmiaaGreatDoor.GoM

def P (list : (List Go.Proofs.YtgimcnpkngpmiaaGreatDoor.PPostmark.Postmark)) (day : Int) : Option ((List ByteArray) × Bool) :=
  Option.bind (Go.Proofs.YtgimcnpkngpmiaaGreatDoor.GiArePostmarks.P list) fun (t_4 : Bool) =>
  letK (!t_4) fun (t_5 : Bool) =>
  joinK (fun (t_10 : Bool) =>
  iteK t_10
  (some (([] : List ByteArray), false))
  (Option.bind (Go.Proofs.YtgimcnpkngpmiaaGreatDoor.GiKeysWherePostmarkStringiTownOfPostmarkiTownsOn1.P list day) fun (t_16 : (List ByteArray)) =>
  Option.bind (Go.Proofs.YtgimcnpkngpmiaaGreatDoor.GxSlicesSortStringString.P t_16) fun (lt_19 : (List ByteArray)) =>
  Option.bind (Go.Proofs.YtgimcnpkngpmiaaGreatDoor.GxSlicesCompactStringString.P lt_19) fun (t_21 : (List ByteArray)) =>
  some (t_21, true))) fun jt_10 => iteK t_5 (appK jt_10 true) (Option.bind (Go.Proofs.YtgimcnpkngpmiaaGreatDoor.GiIsDay.P day) fun (t_8 : Bool) =>
  letK (!t_8) fun (t_9 : Bool) =>
  appK jt_10 t_9)

set_option maxRecDepth 100000 in
set_option maxHeartbeats 2000000 in
theorem C (list : (List Go.Proofs.YtgimcnpkngpmiaaGreatDoor.PPostmark.Postmark)) (day : Int) (A0 : Option Addr) (c0 : Nat)  (w : World) (M0 : Hid (Cells w 6 A0 list.length (Go.Proofs.YtgimcnpkngpmiaaGreatDoor.PPostmark.flat list))) (N0 : Hid (list.length ≤ 9223372036854775807))  {r0 : (List ByteArray)} {r1 : Bool} (H : Hid (P list day = some (r0, r1))) :
    Calls Tryz.prog 9 #[.slice A0 list.length c0, .int .i64 day] w (fun e w' => ∃ A_r0 c_r0, e = .returned (.tuple #[.slice A_r0 r0.length c_r0, .bool r1]) ∧ w'.ownsRow w.heap.size 9 1 (.slice A_r0 r0.length c_r0) r0.length (r0.map Value.string) ∧ Below w.heap.size w w') := by
  have HB := Lib.hid (Below.refl w.heap.size w)
  unfold P at H
  have N0o := N0.out
  go_enter Tryz.func9, Tryz.ntmps9
  obtain ⟨w_day_0, hw_day_0⟩ : ∃ x, w.alloc (.cells #[.int .i64 day] 3) = x := ⟨_, rfl⟩
  have bw_day_0 : Below w.heap.size w w_day_0 := by rw [← hw_day_0]; exact (Below.refl _ _).alloc (Nat.le_refl _) _
  have HBw_day_0 := Lib.hid (Below.step HB.out bw_day_0)
  clear bw_day_0
  have kday_0_0 : w_day_0.cell? ⟨w.heap.size, 0, none⟩ = some (.int .i64 day) := by rw [← hw_day_0]; exact box_new _ _ _ 0 _ rfl
  replace H := bind_hid H
  obtain ⟨t_4, qt_4, H⟩ := H
  go_wp2_with fail
  go_at_call 31
  refine (Go.Proofs.YtgimcnpkngpmiaaGreatDoor.GiArePostmarks.C (list) A0 c0 _   (Lib.hid (Cells.below M0.out HBw_day_0.out)) N0 qt_4).mono ?_
  rintro e_t_4 wt_4 ⟨rfl, bt_4⟩
  have HBwt_4 := Lib.hid (Below.step HBw_day_0.out bt_4)
  replace kday_0_0 := cell_below bt_4 kday_0_0
  clear bt_4
  cases t_4 with
  | false =>
    replace H := let_hid H
    obtain ⟨t_5, ht_5, H⟩ := H
    obtain rfl : t_5 = true := ht_5.symm
    replace H := join_hid H
    replace H := ite_t H
    replace H := app_hid H
    replace H := ite_t H
    obtain ⟨w_t_11, hw_t_11⟩ : ∃ x, wt_4.alloc (.cells #[] 9) = x := ⟨_, rfl⟩
    have bw_t_11 : Below wt_4.heap.size wt_4 w_t_11 := by rw [← hw_t_11]; exact (Below.refl _ _).alloc (Nat.le_refl _) _
    have Ot_11 : Hid (w_t_11.ownsRow w.heap.size 9 1 (.slice (some ⟨wt_4.heap.size, 0, none⟩) 0 0) 0 []) := Lib.hid (by rw [← hw_t_11]; exact own_empty HBwt_4.out.size)
    have Dt_11_day_0 := Lib.hid (apart_box kday_0_0)
    have HBw_t_11 := Lib.hid (Below.step HBwt_4.out bw_t_11)
    have kday_0_0__459 := cell_below bw_t_11 kday_0_0
    clear bw_t_11
    cases ret_hid H
    go_wp2_with fail
    go_ret2
    exact ⟨(some ⟨wt_4.heap.size, 0, none⟩), 0, rfl, Ot_11.out, HBw_t_11.out⟩
  | true =>
    replace H := let_hid H
    obtain ⟨t_5, ht_5, H⟩ := H
    obtain rfl : t_5 = false := ht_5.symm
    replace H := join_hid H
    replace H := ite_f H
    replace H := bind_hid H
    obtain ⟨t_8, qt_8, H⟩ := H
    go_wp2_with fail
    go_at_call 24
    refine (Go.Proofs.YtgimcnpkngpmiaaGreatDoor.GiIsDay.C (day)  _    qt_8).mono ?_
    rintro e_t_8 wt_8 ⟨rfl, bt_8⟩
    have HBwt_8 := Lib.hid (Below.step HBwt_4.out bt_8)
    replace kday_0_0 := cell_below bt_8 kday_0_0
    clear bt_8
    cases t_8 with
    | false =>
      replace H := let_hid H
      obtain ⟨t_9, ht_9, H⟩ := H
      obtain rfl : t_9 = true := ht_9.symm
      replace H := app_hid H
      replace H := ite_t H
      obtain ⟨w_t_11, hw_t_11⟩ : ∃ x, wt_8.alloc (.cells #[] 9) = x := ⟨_, rfl⟩
      have bw_t_11 : Below wt_8.heap.size wt_8 w_t_11 := by rw [← hw_t_11]; exact (Below.refl _ _).alloc (Nat.le_refl _) _
      have Ot_11 : Hid (w_t_11.ownsRow w.heap.size 9 1 (.slice (some ⟨wt_8.heap.size, 0, none⟩) 0 0) 0 []) := Lib.hid (by rw [← hw_t_11]; exact own_empty HBwt_8.out.size)
      have Dt_11_day_0 := Lib.hid (apart_box kday_0_0)
      have HBw_t_11 := Lib.hid (Below.step HBwt_8.out bw_t_11)
      have kday_0_0__460 := cell_below bw_t_11 kday_0_0
      clear bw_t_11
      cases ret_hid H
      go_wp2_with fail
      go_ret2
      exact ⟨(some ⟨wt_8.heap.size, 0, none⟩), 0, rfl, Ot_11.out, HBw_t_11.out⟩
    | true =>
      replace H := let_hid H
      obtain ⟨t_9, ht_9, H⟩ := H
      obtain rfl : t_9 = false := ht_9.symm
      replace H := app_hid H
      replace H := ite_f H
      replace H := bind_hid H
      obtain ⟨t_16, qt_16, H⟩ := H
      go_wp2_with fail
      go_at_call 32
      refine (Go.Proofs.YtgimcnpkngpmiaaGreatDoor.GiKeysWherePostmarkStringiTownOfPostmarkiTownsOn1.C (list) (day) A0 c0 (w.heap.size) _   (Lib.hid (Cells.below M0.out HBwt_8.out)) N0 (Lib.hid kday_0_0) qt_16).mono ?_
      rintro e_t_16 wt_16 ⟨At_16, ct_16, rfl, ot_16, bt_16⟩
      have Dt_16_day_0 := Lib.hid (apart_callbox ot_16 kday_0_0)
      have Ot_16 := Lib.hid (own_lower ot_16 HBwt_8.out.size)
      clear ot_16
      have HBwt_16 := Lib.hid (Below.step HBwt_8.out bt_16)
      replace kday_0_0 := cell_below bt_16 kday_0_0
      clear bt_16
      replace H := bind_hid H
      obtain ⟨lt_19, qt_19, H⟩ := H
      go_wp2_with fail
      go_at_call 36
      refine (Go.Proofs.YtgimcnpkngpmiaaGreatDoor.GxSlicesSortStringString.C (t_16) At_16 ct_16 w.heap.size _   Ot_16 (Lib.hid (own_max Ot_16.out))   qt_19).mono ?_
      rintro e_t_19 wt_19 ⟨rfl, ot_19, nt_19, gt_19⟩
      have Pt_19 := Lib.hid ot_19
      have Gt_19 := Lib.hid gt_19
      replace nt_19 := Lib.hid nt_19
      clear ot_19 gt_19
      have HBwt_19 := Lib.hid (HBwt_16.out.grown Gt_19.out HBwt_16.out.size (fun q hq => (Ot_16.out.lt q hq).1))
      replace kday_0_0 := cell_other kday_0_0 Gt_19.out Dt_16_day_0.out
      clear Ot_16 Gt_19
      go_wp2_with fail
      have hc_ := nt_19.out
      have hv_ : (Value.slice At_16 t_16.length ct_16 : Value) = Value.slice At_16 lt_19.length ct_16 := by rw [hc_]
      try rw [hv_]
      replace Pt_19 := Lib.hid (own_len hc_ Pt_19.out)
      clear hc_ hv_
      replace H := bind_hid H
      obtain ⟨t_21, qt_21, H⟩ := H
      go_wp2_with fail
      go_at_call 37
      refine (Go.Proofs.YtgimcnpkngpmiaaGreatDoor.GxSlicesCompactStringString.C (lt_19) At_16 ct_16 w.heap.size _   Pt_19 (Lib.hid (own_max Pt_19.out)) (Lib.hid HBwt_19.out.size)  qt_21).mono ?_
      rintro e_t_21 wt_21 ⟨At_21, ct_21, rfl, ot_21, gt_21, yt_21⟩
      have Pt_21 := Lib.hid ot_21
      have Gt_21 := Lib.hid gt_21
      replace yt_21 := Lib.hid yt_21
      clear ot_21 gt_21
      have HBwt_21 := Lib.hid (HBwt_19.out.grown Gt_21.out HBwt_19.out.size (fun q hq => (Pt_19.out.lt q hq).1))
      have Dt_21_day_0 : Hid (Apart At_21 _) := Lib.hid (Go.Proofs.YtgimcnpkngpmiaaGreatDoor.GoK.apart_from Dt_16_day_0.out (fun a_ ha_ => by cases ha_; exact cell_lt kday_0_0) yt_21.out)
      replace kday_0_0 := cell_other kday_0_0 Gt_21.out Dt_16_day_0.out
      clear Pt_19 Gt_21 yt_21
      cases ret_hid H
      go_wp2_with fail
      go_ret2
      exact ⟨At_21, ct_21, rfl, Pt_21.out, HBwt_21.out⟩
end Go.Proofs.YtgimcnpkngpmiaaGreatDoor.GiTownsOn

/- loop.example/g01062/laws.rHasText as a plain function, and the contract of the program's: where the plain one has an answer, the program has it. Conditions: slices read as lists. -/
namespace Go.Proofs.YtgimcnpkngpmiaaGreatDoor.GlRHasText
set_option linter.unusedVariables false
set_option linter.unusedSimpArgs false
open Go.RowKit
open Go.Proofs.YtgimcnpkngpmiaaGreatDoor.Rowed Go.Proofs.YtgimcnpkngpmiaaGreatDoor.Turn Go.Proofs.YtgimcnpkngpmiaaGreatDoor.Aid Go.Proofs.YtgimcnpkngpmiaaGreatDoor.GoP Go.Proofs.YtgimcnpkngpmiaaGreatDoor.GoM

def l0 (list : (List ByteArray)) (s_1 : ByteArray) (k0 : Nat) (s : Unit) (nx0 bk0 : Unit → Option (Bool)) : Option (Bool) :=
  
  Option.bind (idx list (k0 : Int)) fun (yt_8 : ByteArray) =>
  letK (yt_8.toList == s_1.toList) fun (t_11 : Bool) =>
  iteK t_11
  (some true)
  (appK nx0 ())

def e0  (s : Unit) : Option (Bool) :=
  
  some false

def P (list : (List ByteArray)) (s_1 : ByteArray) : Option (Bool) :=
  cntK (l0 list s_1) (list.length) 0 () (e0 )

set_option maxRecDepth 100000 in
set_option maxHeartbeats 2000000 in
theorem C (list : (List ByteArray)) (s_1 : ByteArray) (A0 : Option Addr) (c0 : Nat)  (w : World) (M0 : Hid (Cells w 1 A0 list.length (list.map Value.string))) (N0 : Hid (list.length ≤ 9223372036854775807))  {r : Bool} (H : Hid (P list s_1 = some r)) :
    Calls Tryz.prog 10 #[.slice A0 list.length c0, .string s_1] w (Gives (.bool r) w) := by
  have HB := Lib.hid (Below.refl w.heap.size w)
  unfold P at H
  have N0o := N0.out
  go_enter Tryz.func10, Tryz.ntmps10
  go_wp2_with fail
  go_loopg [5] (list.length) (fun m_ v5_ wr => ∃ (k0 : Nat) , k0 + m_ = list.length ∧ v5_ = .int .i64 (k0 : Int) ∧ Hid (cntK (l0 list s_1) m_ k0 () (e0 ) = some r) ∧ Hid (Below w.heap.size w wr))
  case atStart => exact ⟨0, by omega, rfl, H, HB⟩
  case round =>
    obtain ⟨k0, hkm0, rfl, H, HBwr0⟩ := hrel
    rename World => wr0
    cases gk with
    | zero =>
      obtain rfl : k0 = list.length := by omega
      have hc0 : decide (((list.length : Nat) : Int) < ((list.length : Nat) : Int)) = false := by simp
      replace H := cnt_zero H
      unfold e0 at H
      obtain rfl := ret_hid H
      go_wp2_with fail
      go_ret
      exact ⟨rfl, HBwr0.out⟩
    | succ m0 =>
      have hlt0 : k0 < list.length := by omega
      have hc0 : decide ((k0 : Int) < ((list.length : Nat) : Int)) = true := by simp; omega
      replace H := cnt_succ H
      unfold l0 at H
      replace H := idx_hid H
      obtain ⟨nt_8, yt_8, et_8, lt_8, gt_8, H⟩ := H
      obtain rfl : k0 = nt_8 := by omega
      clear et_8
      obtain ⟨ab_t_8, ao_t_8, zt_8, At_8, z_t_8, ct_8_0⟩ := strs_at M0.out lt_8
      obtain rfl := Option.some.inj (gt_8.out.symm.trans z_t_8)
      subst At_8
      have ltt_8 := cell_lt ct_8_0
      replace ct_8_0 := cell_below HBwr0.out ct_8_0
      clear z_t_8
      have b0t_8 : (0 : Int) ≤ (k0 : Int) := by omega
      have b1t_8 : (k0 : Int) < ((list.length : Nat) : Int) := by omega
      have b2t_8 : ((k0 : Int)).toNat = k0 := by omega
      replace H := let_hid H
      obtain ⟨t_11, ht_11, H⟩ := H
      cases t_11 with
      | false =>
        replace H := ite_f H
        replace H := app_hid H
        go_wp2_with fail
        go_roundg m0
        case measure => omega
        case rel => exact ⟨k0 + 1, by omega, by go_num, H, HBwr0⟩
      | true =>
        replace H := ite_t H
        obtain rfl := ret_hid H
        go_wp2_with fail
        go_ret
        exact ⟨rfl, HBwr0.out⟩
end Go.Proofs.YtgimcnpkngpmiaaGreatDoor.GlRHasText

/- loop.example/g01062/spec.DrawLatestUse as a plain function, and the contract of the program's: where the plain one has an answer, the program has it. Conditions: slices read as lists. -/
namespace Go.Proofs.YtgimcnpkngpmiaaGreatDoor.GsDrawLatestUse
set_option linter.unusedVariables false
set_option linter.unusedSimpArgs false
open Go.RowKit
open Go.Proofs.YtgimcnpkngpmiaaGreatDoor.Rowed Go.Proofs.YtgimcnpkngpmiaaGreatDoor.Turn Go.Proofs.YtgimcnpkngpmiaaGreatDoor.Aid Go.Proofs.YtgimcnpkngpmiaaGreatDoor.GoP Go.Proofs.YtgimcnpkngpmiaaGreatDoor.GoM

def P (fuel : Nat) (tapes : List Int → Go.Proofs.YtgimcnpkngpmiaaGreatDoor.GoC.Tape) (code : (List Int)) : Option ((List Go.Proofs.YtgimcnpkngpmiaaGreatDoor.PPostmark.Postmark) × ByteArray) :=
  letK (tapes code) fun (t_4 : Go.Proofs.YtgimcnpkngpmiaaGreatDoor.GoC.Tape) =>
  bind2 (Go.Proofs.YtgimcnpkngpmiaaGreatDoor.GsL1CurPostmarks11.P fuel t_4) fun (t_7 : (List Go.Proofs.YtgimcnpkngpmiaaGreatDoor.PPostmark.Postmark)) (t_7_tp : Go.Proofs.YtgimcnpkngpmiaaGreatDoor.GoC.Tape) =>
  bind2 (Go.Proofs.YtgimcnpkngpmiaaGreatDoor.GsL1CurOne.P t_7_tp 10) fun (t_10 : Bool) (t_10_tp : Go.Proofs.YtgimcnpkngpmiaaGreatDoor.GoC.Tape) =>
  iteK t_10
  (letK ([(⟨#[122, 117, 103]⟩ : ByteArray), (⟨#[]⟩ : ByteArray), (⟨#[66, 101, 114, 110]⟩ : ByteArray)]) fun (t_13 : (List ByteArray)) =>
  bind2 (Go.Proofs.YtgimcnpkngpmiaaGreatDoor.GsL1CurOf.P t_10_tp t_13) fun (t_14 : ByteArray) (t_14_tp : Go.Proofs.YtgimcnpkngpmiaaGreatDoor.GoC.Tape) =>
  some (t_7, t_14))
  (bind2 (Go.Proofs.YtgimcnpkngpmiaaGreatDoor.GsL1CurTown11.P t_10_tp) fun (t_19 : ByteArray) (t_19_tp : Go.Proofs.YtgimcnpkngpmiaaGreatDoor.GoC.Tape) =>
  some (t_7, t_19))

set_option maxRecDepth 100000 in
set_option maxHeartbeats 2000000 in
theorem C (fuel : Nat) (tapes : List Int → Go.Proofs.YtgimcnpkngpmiaaGreatDoor.GoC.Tape) (code : (List Int)) (A0 : Option Addr) (c0 : Nat)  (w : World) (HE : Hid (Go.Proofs.YtgimcnpkngpmiaaGreatDoor.GoC.Tells tapes)) (M0 : Hid (Cells w 1 A0 code.length (Go.Proofs.YtgimcnpkngpmiaaGreatDoor.GoC.u8s code))) (N0 : Hid (code.length ≤ 9223372036854775807)) (V0 : Hid (∀ z ∈ code, 0 ≤ z ∧ z ≤ 255))  {r0 : (List Go.Proofs.YtgimcnpkngpmiaaGreatDoor.PPostmark.Postmark)} {r1 : ByteArray} (H : Hid (P fuel tapes code = some (r0, r1))) :
    Calls Tryz.prog 38 #[.slice A0 code.length c0] w (fun e w' => ∃ A_r0 c_r0, e = .returned (.tuple #[.slice A_r0 r0.length c_r0, .string r1]) ∧ w'.ownsRow w.heap.size 34 6 (.slice A_r0 r0.length c_r0) r0.length (Go.Proofs.YtgimcnpkngpmiaaGreatDoor.PPostmark.flat r0) ∧ Below w.heap.size w w') := by
  have HB := Lib.hid (Below.refl w.heap.size w)
  unfold P at H
  have N0o := N0.out
  go_enter Tryz.func38, Tryz.ntmps38
  replace H := let_hid H
  obtain ⟨t_4, ht_4, H⟩ := H
  obtain ⟨w_t_4, hw_t_4⟩ : ∃ x, w.alloc (.cells #[.slice A0 code.length c0, .int .i64 0, .int .u64 0] 49) = x := ⟨_, rfl⟩
  have bw_t_4 : Below w.heap.size w w_t_4 := by rw [← hw_t_4]; exact (Below.refl _ _).alloc (Nat.le_refl _) _
  have Kt_4 : Hid (Go.Proofs.YtgimcnpkngpmiaaGreatDoor.GoC.CurIs w_t_4 w.heap.size w.heap.size A0 c0 t_4) := Lib.hid (by rw [← hw_t_4, ← ht_4]; exact Go.Proofs.YtgimcnpkngpmiaaGreatDoor.GoC.cur_new HB.out.size (Cells.below M0.out HB.out) (fun a_ ha_ h0_ => by subst ha_; exact Go.Proofs.YtgimcnpkngpmiaaGreatDoor.GoC.cells_lt M0.out (by unfold Go.Proofs.YtgimcnpkngpmiaaGreatDoor.GoC.u8s; rw [List.length_map]; exact h0_)) (HE.out.2.2 code V0.out N0.out))
  have hht_4 := Lib.hid ht_4
  clear ht_4
  have HBw_t_4 := Lib.hid (Below.step HB.out bw_t_4)
  clear bw_t_4
  replace H := bind2_hid H
  obtain ⟨t_7, t_7_tp, qt_7, H⟩ := H
  go_wp2_with fail
  go_at_call 20
  refine (Go.Proofs.YtgimcnpkngpmiaaGreatDoor.GsL1CurPostmarks11.C fuel (t_4) (w.heap.size) (A0) (c0) (w.heap.size) _   Kt_4 qt_7).mono ?_
  rintro e_t_7 wt_7 ⟨At_7, ct_7, rfl, ot_7, kt_7, gt_7⟩
  have Dt_7_t_4 := Lib.hid (Go.Proofs.YtgimcnpkngpmiaaGreatDoor.GoC.apart_callcur ot_7 Kt_4.out)
  have Ot_7 := Lib.hid (own_lower ot_7 HBw_t_4.out.size)
  clear ot_7
  have Kt_7 := Lib.hid kt_7
  have Gt_7 : Hid (w_t_4.grownBy wt_7 (Value.slice (some ⟨w.heap.size, 0, none⟩) 1 1).ownBlock) := Lib.hid gt_7
  clear kt_7 gt_7
  have HBwt_7 := Lib.hid (Go.Proofs.YtgimcnpkngpmiaaGreatDoor.GoC.below_cur HBw_t_4.out Gt_7.out HBw_t_4.out.size (Go.Proofs.YtgimcnpkngpmiaaGreatDoor.GoC.cur_lt Kt_4.out).1)
  clear Kt_4 Gt_7
  replace H := bind2_hid H
  obtain ⟨t_10, t_10_tp, qt_10, H⟩ := H
  go_wp2_with fail
  go_at_call 54
  refine (Go.Proofs.YtgimcnpkngpmiaaGreatDoor.GsL1CurOne.C (t_7_tp) (10) (w.heap.size) (A0) (c0) (w.heap.size) _   Kt_7 qt_10).mono ?_
  rintro e_t_10 wt_10 ⟨rfl, kt_10, gt_10⟩
  have Kt_10 := Lib.hid kt_10
  have Gt_10 : Hid (wt_7.grownBy wt_10 (Value.slice (some ⟨w.heap.size, 0, none⟩) 1 1).ownBlock) := Lib.hid gt_10
  clear kt_10 gt_10
  have HBwt_10 := Lib.hid (Go.Proofs.YtgimcnpkngpmiaaGreatDoor.GoC.below_cur HBwt_7.out Gt_10.out HBwt_7.out.size (Go.Proofs.YtgimcnpkngpmiaaGreatDoor.GoC.cur_lt Kt_7.out).1)
  replace Ot_7 := Lib.hid (own_other Ot_7.out Gt_10.out (Apart.symm Dt_7_t_4.out))
  clear Kt_7 Gt_10
  cases t_10 with
  | false =>
    replace H := ite_f H
    replace H := bind2_hid H
    obtain ⟨t_19, t_19_tp, qt_19, H⟩ := H
    go_wp2_with fail
    go_at_call 65
    refine (Go.Proofs.YtgimcnpkngpmiaaGreatDoor.GsL1CurTown11.C (t_10_tp) (w.heap.size) (A0) (c0) (w.heap.size) _   Kt_10 qt_19).mono ?_
    rintro e_t_19 wt_19 ⟨rfl, kt_19, gt_19⟩
    have Kt_19 := Lib.hid kt_19
    have Gt_19 : Hid (wt_10.grownBy wt_19 (Value.slice (some ⟨w.heap.size, 0, none⟩) 1 1).ownBlock) := Lib.hid gt_19
    clear kt_19 gt_19
    have HBwt_19 := Lib.hid (Go.Proofs.YtgimcnpkngpmiaaGreatDoor.GoC.below_cur HBwt_10.out Gt_19.out HBwt_10.out.size (Go.Proofs.YtgimcnpkngpmiaaGreatDoor.GoC.cur_lt Kt_10.out).1)
    replace Ot_7 := Lib.hid (own_other Ot_7.out Gt_19.out (Apart.symm Dt_7_t_4.out))
    clear Kt_10 Gt_19
    cases ret_hid H
    go_wp2_with fail
    go_ret2
    exact ⟨At_7, ct_7, rfl, Ot_7.out, HBwt_19.out⟩
  | true =>
    replace H := ite_t H
    replace H := let_hid H
    obtain ⟨t_13, ht_13, H⟩ := H
    obtain ⟨w_t_13, hw_t_13⟩ : ∃ x, wt_10.alloc (.cells #[.string (⟨#[122, 117, 103]⟩ : ByteArray), .string (⟨#[]⟩ : ByteArray), .string (⟨#[66, 101, 114, 110]⟩ : ByteArray)] 9) = x := ⟨_, rfl⟩
    have bw_t_13 : Below wt_10.heap.size wt_10 w_t_13 := by rw [← hw_t_13]; exact (Below.refl _ _).alloc (Nat.le_refl _) _
    have hs_t_13 := HBwt_10.out.size
    have nt_13 : t_13.length = 3 := by rw [← ht_13]; rfl
    have Ot_13 : Hid (w_t_13.ownsRow w.heap.size 9 1 (.slice (some ⟨wt_10.heap.size, 0, none⟩) 3 3) 3 (t_13.map Value.string)) := by
      rw [← hw_t_13, ← ht_13]
      have e_ : ([.string (⟨#[122, 117, 103]⟩ : ByteArray), .string (⟨#[]⟩ : ByteArray), .string (⟨#[66, 101, 114, 110]⟩ : ByteArray)] : List Value) = (([(⟨#[122, 117, 103]⟩ : ByteArray), (⟨#[]⟩ : ByteArray), (⟨#[66, 101, 114, 110]⟩ : ByteArray)] : List ByteArray).map Value.string) := rfl
      exact Lib.hid (own_laid (n := 3) hs_t_13 e_ rfl (by unfold maxLen; omega))
    clear hs_t_13
    have hht_13 := Lib.hid ht_13
    clear ht_13
    replace nt_13 := Lib.hid nt_13
    have Dt_13_t_7 := Lib.hid (apart_fresh Ot_7.out)
    have Dt_13_t_4 := Lib.hid (Go.Proofs.YtgimcnpkngpmiaaGreatDoor.GoC.apart_cur Kt_10.out)
    have HBw_t_13 := Lib.hid (Below.step HBwt_10.out bw_t_13)
    replace Ot_7 := Lib.hid (own_below Ot_7.out bw_t_13)
    replace Kt_10 := Lib.hid (Go.Proofs.YtgimcnpkngpmiaaGreatDoor.GoC.cur_below Kt_10.out bw_t_13)
    clear bw_t_13
    replace H := bind2_hid H
    obtain ⟨t_14, t_14_tp, qt_14, H⟩ := H
    go_wp2_with fail
    have hc_ := nt_13.out
    have hv_ : (Value.slice (some ⟨wt_10.heap.size, 0, none⟩) 3 3 : Value) = Value.slice (some ⟨wt_10.heap.size, 0, none⟩) t_13.length 3 := by rw [hc_]
    try rw [hv_]
    replace Ot_13 := Lib.hid (own_len hc_ Ot_13.out)
    clear hc_ hv_
    go_wp2_with fail
    go_at_call 64
    refine (Go.Proofs.YtgimcnpkngpmiaaGreatDoor.GsL1CurOf.C (t_10_tp) (t_13) (some ⟨wt_10.heap.size, 0, none⟩) 3 (w.heap.size) (A0) (c0) (w.heap.size) _   (Lib.hid (own_cells Ot_13.out)) (Lib.hid (own_max Ot_13.out)) Kt_10 (Lib.hid (fun _ => Dt_13_t_4.out)) qt_14).mono ?_
    rintro e_t_14 wt_14 ⟨rfl, kt_14, gt_14⟩
    have Kt_14 := Lib.hid kt_14
    have Gt_14 : Hid (w_t_13.grownBy wt_14 (Value.slice (some ⟨w.heap.size, 0, none⟩) 1 1).ownBlock) := Lib.hid gt_14
    clear kt_14 gt_14
    have HBwt_14 := Lib.hid (Go.Proofs.YtgimcnpkngpmiaaGreatDoor.GoC.below_cur HBw_t_13.out Gt_14.out HBw_t_13.out.size (Go.Proofs.YtgimcnpkngpmiaaGreatDoor.GoC.cur_lt Kt_10.out).1)
    replace Ot_7 := Lib.hid (own_other Ot_7.out Gt_14.out (Apart.symm Dt_7_t_4.out))
    replace Ot_13 := Lib.hid (own_other Ot_13.out Gt_14.out (Apart.symm Dt_13_t_4.out))
    clear Kt_10 Gt_14
    cases ret_hid H
    go_wp2_with fail
    go_ret2
    exact ⟨At_7, ct_7, rfl, Ot_7.out, HBwt_14.out⟩
end Go.Proofs.YtgimcnpkngpmiaaGreatDoor.GsDrawLatestUse

/- loop.example/g01062/spec.DrawGapBetween as a plain function, and the contract of the program's: where the plain one has an answer, the program has it. Conditions: slices read as lists. -/
namespace Go.Proofs.YtgimcnpkngpmiaaGreatDoor.GsDrawGapBetween
set_option linter.unusedVariables false
set_option linter.unusedSimpArgs false
open Go.RowKit
open Go.Proofs.YtgimcnpkngpmiaaGreatDoor.Rowed Go.Proofs.YtgimcnpkngpmiaaGreatDoor.Turn Go.Proofs.YtgimcnpkngpmiaaGreatDoor.Aid Go.Proofs.YtgimcnpkngpmiaaGreatDoor.GoP Go.Proofs.YtgimcnpkngpmiaaGreatDoor.GoM

def P (fuel : Nat) (tapes : List Int → Go.Proofs.YtgimcnpkngpmiaaGreatDoor.GoC.Tape) (code : (List Int)) : Option ((List Go.Proofs.YtgimcnpkngpmiaaGreatDoor.PPostmark.Postmark) × ByteArray) :=
  bind2 (Go.Proofs.YtgimcnpkngpmiaaGreatDoor.GsDrawLatestUse.P fuel tapes code) fun (t_3a : (List Go.Proofs.YtgimcnpkngpmiaaGreatDoor.PPostmark.Postmark)) (t_3b : ByteArray) =>
  some (t_3a, t_3b)

set_option maxRecDepth 100000 in
set_option maxHeartbeats 2000000 in
theorem C (fuel : Nat) (tapes : List Int → Go.Proofs.YtgimcnpkngpmiaaGreatDoor.GoC.Tape) (code : (List Int)) (A0 : Option Addr) (c0 : Nat)  (w : World) (HE : Hid (Go.Proofs.YtgimcnpkngpmiaaGreatDoor.GoC.Tells tapes)) (M0 : Hid (Cells w 1 A0 code.length (Go.Proofs.YtgimcnpkngpmiaaGreatDoor.GoC.u8s code))) (N0 : Hid (code.length ≤ 9223372036854775807)) (V0 : Hid (∀ z ∈ code, 0 ≤ z ∧ z ≤ 255))  {r0 : (List Go.Proofs.YtgimcnpkngpmiaaGreatDoor.PPostmark.Postmark)} {r1 : ByteArray} (H : Hid (P fuel tapes code = some (r0, r1))) :
    Calls Tryz.prog 11 #[.slice A0 code.length c0] w (fun e w' => ∃ A_r0 c_r0, e = .returned (.tuple #[.slice A_r0 r0.length c_r0, .string r1]) ∧ w'.ownsRow w.heap.size 34 6 (.slice A_r0 r0.length c_r0) r0.length (Go.Proofs.YtgimcnpkngpmiaaGreatDoor.PPostmark.flat r0) ∧ Below w.heap.size w w') := by
  have HB := Lib.hid (Below.refl w.heap.size w)
  unfold P at H
  have N0o := N0.out
  go_enter Tryz.func11, Tryz.ntmps11
  replace H := bind2_hid H
  obtain ⟨t_3a, t_3b, qt_3, H⟩ := H
  go_wp2_with fail
  go_at_call 38
  refine (Go.Proofs.YtgimcnpkngpmiaaGreatDoor.GsDrawLatestUse.C fuel tapes (code) A0 c0 _  HE (Lib.hid (Cells.below M0.out HB.out)) N0 V0 qt_3).mono ?_
  rintro e_t_3 wt_3 ⟨At_3a, ct_3a, rfl, ot_3a, bt_3⟩
  have Ot_3a := Lib.hid (own_lower ot_3a HB.out.size)
  clear ot_3a
  have HBwt_3 := Lib.hid (Below.step HB.out bt_3)
  clear bt_3
  cases ret_hid H
  go_wp2_with fail
  go_ret2
  exact ⟨At_3a, ct_3a, rfl, Ot_3a.out, HBwt_3.out⟩
end Go.Proofs.YtgimcnpkngpmiaaGreatDoor.GsDrawGapBetween

/- Rows of records in one's own memory: clear of a tail; a part taken out (append(s[:i], s[j:]...), clear of what is left behind). No condition. -/
namespace Go.Proofs.YtgimcnpkngpmiaaGreatDoor.GoD
set_option linter.unusedVariables false
set_option linter.unusedSimpArgs false
open Go.RowKit
open Go.Proofs.YtgimcnpkngpmiaaGreatDoor.Rowed Go.Proofs.YtgimcnpkngpmiaaGreatDoor.Turn Go.Proofs.YtgimcnpkngpmiaaGreatDoor.GoM Go.Proofs.YtgimcnpkngpmiaaGreatDoor.GoK

theorem flatten_rep (zs : List Value) : ∀ (n i : Nat), (List.replicate n zs).flatten[i]? = if i < n * zs.length then some zs[i % zs.length]! else none
  | 0, i => by simp
  | n + 1, i => by
    rw [List.replicate_succ, List.flatten_cons]
    by_cases hi : i < zs.length
    · rw [List.getElem?_append_left hi, Nat.mod_eq_of_lt hi, if_pos (by rw [Nat.succ_mul]; omega), List.getElem?_eq_getElem hi]
      simp [getElem!_pos, hi]
    · have h1 : (i - zs.length < n * zs.length) ↔ (i < (n + 1) * zs.length) := by rw [Nat.succ_mul]; omega
      have h2 : (i - zs.length) % zs.length = i % zs.length := (Nat.mod_eq_sub_mod (by omega)).symm
      rw [List.getElem?_append_right (by omega), flatten_rep zs n (i - zs.length), h2]
      simp only [h1]
theorem rep_len (zs : List Value) (n : Nat) : (List.replicate n zs).flatten.length = n * zs.length := by simp
theorem zero_list (zs : List Value) (n : Nat) : (Builtin.zeroCells zs.toArray n).toList = (List.replicate n zs).flatten := by
  apply List.ext_getElem?
  intro i
  rw [flatten_rep]
  unfold Builtin.zeroCells
  by_cases hi : i < n * zs.length
  · rw [if_pos hi]; simp [hi]
  · rw [if_neg hi, List.getElem?_eq_none (by simp; omega)]
theorem run_clearK {P : Program} (w : World) (t e ty : TypeId) (z : Value) (zs : List Value) (ht : P.underlying t = some (.slice e)) (hv : ∀ w, (zeroValue e).run P w = .ok z w) (hz : z.cells = zs.toArray) (h1 : ∀ u ∈ zs, u.oneCell' = true) (b o n c : Nat) (hn : 0 < n)
    (hc : ∀ j, j < n * zs.length → (w.cell? ⟨b, o + j, none⟩).isSome = true) (hf : ∀ j, j < n * zs.length → w.frozen? ⟨b, o + j, none⟩ = false) :
    (Builtin.clear_ #[t] ty #[.slice (some ⟨b, o, none⟩) n c]).run P w = .ok (.tuple #[]) (w.setCells b o (List.replicate n zs).flatten) := by
  have hl := rep_len zs n
  have hst := run_storeCells_cells (P := P) b o (List.replicate n zs).flatten 0 w (by rw [hl]; simpa using hc) (by rw [hl]; simpa using hf)
    (by intro v hv'; obtain ⟨l, hl1, hl2⟩ := List.mem_flatten.1 hv'; rw [List.eq_of_mem_replicate hl1] at hl2; exact h1 v hl2)
  simp only [Nat.add_zero] at hst
  have hzl := zero_list zs n
  obtain ⟨m, rfl⟩ : ∃ m, n = m + 1 := ⟨n - 1, by omega⟩
  simp [Builtin.clear_, run_underlying ht, hv, hz, hzl, hst]
theorem flat_clear {α : Type} (f : α → List Value) (K : Nat) (hK : ∀ x, (f x).length = K) (l : List α) (q m : Nat) (z : α) : (l.flatMap f).take (q * K) ++ (List.replicate m (f z)).flatten = (l.take q ++ List.replicate m z).flatMap f := by
  rw [flat_take f K hK, List.flatMap_append]
  congr 1
  induction m with
  | zero => rfl
  | succ m ih => rw [List.replicate_succ, List.flatten_cons, List.replicate_succ, List.flatMap_cons, ih]
/-- clear(s[lo:]) of a row of its own, of records -/
theorem own_clearK {P : Program} {t e : TypeId} {i : TypeInfo} {k : IntKind} {K n c b : Nat} {A : Option Addr} {lo : Int} {w : World} {xs ys zs : List Value} {z : Value}
    (ht : P.underlying t = some (.slice (P.elem t))) (he : P.elem t = e) (hi : P.info? e = some i) (hs : i.size = K) (hv : i.zero = some z) (hz : z.cells = zs.toArray) (hzl : zs.length = K) (hK : 0 < K) (h1 : ∀ u ∈ zs, u.oneCell' = true)
    (h : w.ownsRow b e K (.slice A n c) n xs) (hl : 0 ≤ lo ∧ lo ≤ (n : Int)) (hd : xs.take (lo.toNat * K) ++ (List.replicate (n - lo.toNat) zs).flatten = ys) :
    ∃ A' m c' w', (∀ W, (Instr.slice t (.slice A n c) (some (.int k lo)) none none).run P W = .ok (.slice A' m c') W) ∧ (∀ ty, (Builtin.clear_ #[t] ty #[.slice A' m c']).run P w = .ok (.tuple #[]) w') ∧
      w'.ownsRow b e K (.slice A n c) n ys ∧ w.grownBy w' (Value.slice A n c).ownBlock := by
  have hR := own_room h
  have hxs : xs.length = n * K := h.1
  have hsz : ∀ W, (sizeOf (P.elem t)).run P W = .ok K W := by intro W; subst he; simp [sizeOf, typeInfo, hi, hs]
  have hrun : ∀ W, (Instr.slice t (.slice A n c) (some (.int k lo)) none none).run P W = .ok (.slice (if c = lo.toNat then A else A.map (·.add (lo.toNat * K))) (n - lo.toNat) (c - lo.toNat)) W := by
    intro W
    rw [run_slice_l (P := P) W t A n c ht k lo hl.1 hl.2, hsz W]
    rfl
  by_cases hm : n - lo.toNat = 0
  · refine ⟨_, _, _, w, hrun, ?_, ?_, Aid.grown_refl _ _⟩
    · intro ty
      rw [hm]
      generalize (if c = lo.toNat then A else A.map (·.add (lo.toNat * K))) = A'
      cases A' <;> simp [Builtin.clear_, run_underlying ht]
    · have hle : n * K ≤ lo.toNat * K := Nat.mul_le_mul_right K (by omega)
      rw [← hd, hm, List.replicate_zero, List.flatten_nil, List.append_nil, List.take_of_length_le (by omega)]
      exact h
  · obtain ⟨g, rfl⟩ := own_some h (by omega)
    have hne : ¬ c = lo.toNat := by have := hR.1; omega
    have hcl := own_cells h
    have hmul : lo.toNat * K + (n - lo.toNat) * K = n * K := by rw [← Nat.add_mul]; congr 1; omega
    have hget : ∀ j, j < n * K → (w.cell? ⟨g, j, none⟩).isSome = true := by
      intro j hj
      obtain ⟨ad, e0, hc⟩ := hcl.2 (by omega)
      obtain rfl := Option.some.inj e0
      have := hc j xs[j] (List.getElem?_eq_getElem (by omega))
      rw [add_flat, Nat.zero_add] at this
      rw [this]; rfl
    have hadd : (if c = lo.toNat then (some ⟨g, 0, none⟩ : Option Addr) else (some ⟨g, 0, none⟩ : Option Addr).map (·.add (lo.toNat * K))) = some ⟨g, lo.toNat * K, none⟩ := by
      rw [if_neg hne, Option.map_some, add_flat, Nat.zero_add]
    rw [hadd] at hrun
    have hrl : (List.replicate (n - lo.toNat) zs).flatten.length = (n - lo.toNat) * K := by rw [rep_len, hzl]
    have h2 := own_setCells (List.replicate (n - lo.toNat) zs).flatten (lo.toNat * K) h (by rw [hrl]; omega)
    refine ⟨_, _, _, _, hrun, fun ty => ?_, ?_, h2.2⟩
    · exact run_clearK w t e ty z zs (he ▸ ht) (fun w => by simp [zeroValue, typeInfo, hi, hv]) hz h1 g (lo.toNat * K) (n - lo.toNat) (c - lo.toNat) (by omega) (fun j hj => hget _ (by rw [hzl] at hj; omega)) (fun j hj => h.frozenAt _)
    · have e2 : xs.take (lo.toNat * K) ++ (List.replicate (n - lo.toNat) zs).flatten ++ xs.drop (lo.toNat * K + (List.replicate (n - lo.toNat) zs).flatten.length) = ys := by
        rw [hrl, List.drop_of_length_le (by omega), List.append_nil, hd]
      rw [← e2]
      exact h2.1
/-- s[lo:] of a row of its own, to be read -/
theorem slice_view {P : Program} {t e : TypeId} {i : TypeInfo} {k : IntKind} {K n c b : Nat} {A : Option Addr} {lo : Int} {w : World} {xs ys : List Value} {m : Nat}
    (ht : P.underlying t = some (.slice (P.elem t))) (he : P.elem t = e) (hi : P.info? e = some i) (hs : i.size = K) (h : w.ownsRow b e K (.slice A n c) n xs) (hl : 0 ≤ lo ∧ lo ≤ (n : Int)) (hm : n - lo.toNat = m) (hd : xs.drop (lo.toNat * K) = ys) :
    ∃ A' c', (∀ W, (Instr.slice t (.slice A n c) (some (.int k lo)) none none).run P W = .ok (.slice A' m c') W) ∧ (∀ W : World, W.ownsRow b e K (.slice A n c) n xs → Cells W K A' m ys) ∧ Room A' m c' := by
  have hR := own_room h
  subst hm
  have hsz : ∀ W, (sizeOf (P.elem t)).run P W = .ok K W := by intro W; subst he; simp [sizeOf, typeInfo, hi, hs]
  have hrun : ∀ W, (Instr.slice t (.slice A n c) (some (.int k lo)) none none).run P W = .ok (.slice (if c = lo.toNat then A else A.map (·.add (lo.toNat * K))) (n - lo.toNat) (c - lo.toNat)) W := by
    intro W
    rw [run_slice_l (P := P) W t A n c ht k lo hl.1 hl.2, hsz W]
    rfl
  have key : ∀ W : World, W.ownsRow b e K (.slice A n c) n xs → Cells W K (if c = lo.toNat then A else A.map (·.add (lo.toNat * K))) (n - lo.toNat) ys ∧ Room (if c = lo.toNat then A else A.map (·.add (lo.toNat * K))) (n - lo.toNat) (c - lo.toNat) := by
    intro W hW
    obtain ⟨A', c', hr, hC, hM⟩ := slice_tail (P := P) (t := t) (k := k) ht he hi hs (own_cells hW) (own_room hW) hl rfl hd
    have e1 := (hr W).symm.trans (hrun W)
    simp only [Result.ok.injEq, Value.slice.injEq, true_and, and_true] at e1
    obtain ⟨rfl, rfl⟩ := e1
    exact ⟨hC, hM⟩
  exact ⟨_, _, hrun, fun W hW => (key W hW).1, (key w h).2⟩
/-- s[:hi] of a row of its own, to be read -/
theorem slice_viewH {P : Program} {t e : TypeId} {i : TypeInfo} {k : IntKind} {K n c b : Nat} {A : Option Addr} {hi : Int} {w : World} {xs ys : List Value} {m : Nat}
    (ht : P.underlying t = some (.slice (P.elem t))) (he : P.elem t = e) (hi_ : P.info? e = some i) (hs : i.size = K) (h : w.ownsRow b e K (.slice A n c) n xs) (hl : 0 ≤ hi ∧ hi ≤ (n : Int)) (hm : hi.toNat = m) (hd : xs.take (hi.toNat * K) = ys) :
    ∃ A' c', (∀ W, (Instr.slice t (.slice A n c) none (some (.int k hi)) none).run P W = .ok (.slice A' m c') W) ∧ (∀ W : World, W.ownsRow b e K (.slice A n c) n xs → Cells W K A' m ys) ∧ Room A' m c' :=
  ⟨A, c, (slice_head ht he hi_ hs h hl hm hd).1, fun W hW => own_cells (slice_head (k := k) ht he hi_ hs hW hl hm hd).2, own_room (slice_head (k := k) ht he hi_ hs h hl hm hd).2⟩
end Go.Proofs.YtgimcnpkngpmiaaGreatDoor.GoD

/- loop.example/g01062/impl.marksOf$1 as a plain function, and the contract of the program's: where the plain one has an answer, the program has it. Conditions: slices read as lists. -/
namespace Go.Proofs.YtgimcnpkngpmiaaGreatDoor.GiMarksOf1
set_option linter.unusedVariables false
set_option linter.unusedSimpArgs false
open Go.RowKit
open Go.Proofs.YtgimcnpkngpmiaaGreatDoor.Rowed Go.Proofs.YtgimcnpkngpmiaaGreatDoor.Turn Go.Proofs.YtgimcnpkngpmiaaGreatDoor.Aid Go.Proofs.YtgimcnpkngpmiaaGreatDoor.GoP Go.Proofs.YtgimcnpkngpmiaaGreatDoor.GoM

def P (p : Go.Proofs.YtgimcnpkngpmiaaGreatDoor.PPostmark.Postmark) (hq0 : ByteArray) : Option (Bool) :=
  unPostmark p fun (p_id : Int) (p_town : ByteArray) (p_kind_ : Int) (p_first : Int) (p_last : Int) (p_lost : ByteArray) =>
  letK (!(p_town.toList == hq0.toList)) fun (t_5 : Bool) =>
  some t_5

set_option maxRecDepth 100000 in
set_option maxHeartbeats 2000000 in
theorem C (p : Go.Proofs.YtgimcnpkngpmiaaGreatDoor.PPostmark.Postmark) (hq0 : ByteArray)  (gq0 : Nat) (w : World)  (Fq0h : Hid (w.cell? ⟨gq0, 0, none⟩ = some (.string hq0))) {r : Bool} (H : Hid (P p hq0 = some r)) :
    Calls Tryz.prog 67 #[p.val, .pointer (some ⟨gq0, 0, none⟩)] w (Gives (.bool r) w) := by
  have HB := Lib.hid (Below.refl w.heap.size w)
  unfold P at H
  obtain ⟨p_id, p_town, p_kind_, p_first, p_last, p_lost⟩ := p
  replace H := unPostmark_hid H
  unfold Go.Proofs.YtgimcnpkngpmiaaGreatDoor.PPostmark.Postmark.val
  have Fq0 := Fq0h.out
  go_enter Tryz.func67, Tryz.ntmps67
  obtain ⟨w_p_0, hw_p_0⟩ : ∃ x, w.alloc (.cells #[.int .i64 p_id, .string p_town, .int .i64 p_kind_, .int .i64 p_first, .int .i64 p_last, .string p_lost] 34) = x := ⟨_, rfl⟩
  have bw_p_0 : Below w.heap.size w w_p_0 := by rw [← hw_p_0]; exact (Below.refl _ _).alloc (Nat.le_refl _) _
  have HBw_p_0 := Lib.hid (Below.step HB.out bw_p_0)
  have Fq0__461 := cell_below bw_p_0 Fq0
  clear bw_p_0
  have kp_0_0 : w_p_0.cell? ⟨w.heap.size, 0, none⟩ = some (.int .i64 p_id) := by rw [← hw_p_0]; exact box_new _ _ _ 0 _ rfl
  have kp_0_1 : w_p_0.cell? ⟨w.heap.size, 1, none⟩ = some (.string p_town) := by rw [← hw_p_0]; exact box_new _ _ _ 1 _ rfl
  have kp_0_2 : w_p_0.cell? ⟨w.heap.size, 2, none⟩ = some (.int .i64 p_kind_) := by rw [← hw_p_0]; exact box_new _ _ _ 2 _ rfl
  have kp_0_3 : w_p_0.cell? ⟨w.heap.size, 3, none⟩ = some (.int .i64 p_first) := by rw [← hw_p_0]; exact box_new _ _ _ 3 _ rfl
  have kp_0_4 : w_p_0.cell? ⟨w.heap.size, 4, none⟩ = some (.int .i64 p_last) := by rw [← hw_p_0]; exact box_new _ _ _ 4 _ rfl
  have kp_0_5 : w_p_0.cell? ⟨w.heap.size, 5, none⟩ = some (.string p_lost) := by rw [← hw_p_0]; exact box_new _ _ _ 5 _ rfl
  replace H := let_hid H
  obtain ⟨t_5, ht_5, H⟩ := H
  obtain rfl := ret_hid H
  go_wp2_with fail
  go_ret
  exact ⟨rfl, HBw_p_0.out⟩
end Go.Proofs.YtgimcnpkngpmiaaGreatDoor.GiMarksOf1

/- slices.IndexFunc[[]loop.example/g01062/impl.Postmark,loop.example/g01062/impl.Postmark] as a plain function, and the contract of the program's: where the plain one has an answer, the program has it. Conditions: slices read as lists. -/
namespace Go.Proofs.YtgimcnpkngpmiaaGreatDoor.GxSlicesIndexFuncLoopExampleG01062ImplPostmarkLoopExampleG01062ImplPostmarkiMarksOf1
set_option linter.unusedVariables false
set_option linter.unusedSimpArgs false
open Go.RowKit
open Go.Proofs.YtgimcnpkngpmiaaGreatDoor.Rowed Go.Proofs.YtgimcnpkngpmiaaGreatDoor.Turn Go.Proofs.YtgimcnpkngpmiaaGreatDoor.Aid Go.Proofs.YtgimcnpkngpmiaaGreatDoor.GoP Go.Proofs.YtgimcnpkngpmiaaGreatDoor.GoM

def l0 (s_0 : (List Go.Proofs.YtgimcnpkngpmiaaGreatDoor.PPostmark.Postmark)) (hf1_0 : ByteArray) (k0 : Nat) (s : Unit) (nx0 bk0 : Unit → Option (Int)) : Option (Int) :=
  
  Option.bind (idx s_0 (k0 : Int)) fun (yt_10 : Go.Proofs.YtgimcnpkngpmiaaGreatDoor.PPostmark.Postmark) =>
  unPostmark yt_10 fun (t_10_id : Int) (t_10_town : ByteArray) (t_10_kind_ : Int) (t_10_first : Int) (t_10_last : Int) (t_10_lost : ByteArray) =>
  Option.bind (Go.Proofs.YtgimcnpkngpmiaaGreatDoor.GiMarksOf1.P (Go.Proofs.YtgimcnpkngpmiaaGreatDoor.PPostmark.Postmark.mk t_10_id t_10_town t_10_kind_ t_10_first t_10_last t_10_lost) hf1_0) fun (t_12 : Bool) =>
  iteK t_12
  (some (k0 : Int))
  (appK nx0 ())

def e0  (s : Unit) : Option (Int) :=
  
  some (-1)

def P (s_0 : (List Go.Proofs.YtgimcnpkngpmiaaGreatDoor.PPostmark.Postmark)) (hf1_0 : ByteArray) : Option (Int) :=
  cntK (l0 s_0 hf1_0) (s_0.length) 0 () (e0 )

set_option maxRecDepth 100000 in
set_option maxHeartbeats 2000000 in
theorem C (s_0 : (List Go.Proofs.YtgimcnpkngpmiaaGreatDoor.PPostmark.Postmark)) (hf1_0 : ByteArray) (A0 : Option Addr) (c0 : Nat) (gf1_0 : Nat) (w : World) (M0 : Hid (Cells w 6 A0 s_0.length (Go.Proofs.YtgimcnpkngpmiaaGreatDoor.PPostmark.flat s_0))) (N0 : Hid (s_0.length ≤ 9223372036854775807)) (Ff1_0h : Hid (w.cell? ⟨gf1_0, 0, none⟩ = some (.string hf1_0))) {r : Int} (H : Hid (P s_0 hf1_0 = some r)) :
    Calls Tryz.prog 56 #[.slice A0 s_0.length c0, .func (.func 67) #[] #[.pointer (some ⟨gf1_0, 0, none⟩)]] w (Gives (.int .i64 r) w) := by
  have HB := Lib.hid (Below.refl w.heap.size w)
  unfold P at H
  have N0o := N0.out
  have Ff1_0 := Ff1_0h.out
  go_enter Tryz.func56, Tryz.ntmps56
  go_wp2_with fail
  go_loopg [8] (s_0.length) (fun m_ v8_ wr => ∃ (k0 : Nat) , k0 + m_ = s_0.length ∧ v8_ = .int .i64 (k0 : Int) ∧ Hid (cntK (l0 s_0 hf1_0) m_ k0 () (e0 ) = some r) ∧ Hid (Below w.heap.size w wr) ∧ wr.cell? ⟨gf1_0, 0, none⟩ = some (.string hf1_0))
  case atStart => exact ⟨0, by omega, rfl, H, HB, Ff1_0⟩
  case round =>
    obtain ⟨k0, hkm0, rfl, H, HBwr0, Ff1_0⟩ := hrel
    rename World => wr0
    cases gk with
    | zero =>
      obtain rfl : k0 = s_0.length := by omega
      have hc0 : decide (((s_0.length : Nat) : Int) < ((s_0.length : Nat) : Int)) = false := by simp
      replace H := cnt_zero H
      unfold e0 at H
      obtain rfl := ret_hid H
      go_wp2_with fail
      go_ret
      exact ⟨rfl, HBwr0.out⟩
    | succ m0 =>
      have hlt0 : k0 < s_0.length := by omega
      have hc0 : decide ((k0 : Int) < ((s_0.length : Nat) : Int)) = true := by simp; omega
      replace H := cnt_succ H
      unfold l0 at H
      replace H := idx_hid H
      obtain ⟨nt_10, yt_10, et_10, lt_10, gt_10, H⟩ := H
      obtain rfl : k0 = nt_10 := by omega
      clear et_10
      obtain ⟨t_10_id, t_10_town, t_10_kind_, t_10_first, t_10_last, t_10_lost⟩ := yt_10
      replace H := unPostmark_hid H
      obtain ⟨ab_t_10, ao_t_10, zt_10, At_10, z_t_10, ct_10_0, ct_10_1, ct_10_2, ct_10_3, ct_10_4, ct_10_5⟩ := Go.Proofs.YtgimcnpkngpmiaaGreatDoor.OPostmark.at_ M0.out lt_10
      obtain rfl := Option.some.inj (gt_10.out.symm.trans z_t_10)
      subst At_10
      have ltt_10 := cell_lt ct_10_0
      replace ct_10_0 := cell_below HBwr0.out ct_10_0
      replace ct_10_1 := cell_below HBwr0.out ct_10_1
      replace ct_10_2 := cell_below HBwr0.out ct_10_2
      replace ct_10_3 := cell_below HBwr0.out ct_10_3
      replace ct_10_4 := cell_below HBwr0.out ct_10_4
      replace ct_10_5 := cell_below HBwr0.out ct_10_5
      clear z_t_10
      have b0t_10 : (0 : Int) ≤ (k0 : Int) := by omega
      have b1t_10 : (k0 : Int) < ((s_0.length : Nat) : Int) := by omega
      have b2t_10 : ((k0 : Int)).toNat = k0 := by omega
      replace H := bind_hid H
      obtain ⟨t_12, qt_12, H⟩ := H
      go_wp2_with fail
      go_at_call 67
      refine (Go.Proofs.YtgimcnpkngpmiaaGreatDoor.GiMarksOf1.C ((Go.Proofs.YtgimcnpkngpmiaaGreatDoor.PPostmark.Postmark.mk t_10_id t_10_town t_10_kind_ t_10_first t_10_last t_10_lost)) (hf1_0) (gf1_0) _   (Lib.hid Ff1_0) qt_12).mono ?_
      rintro e_t_12 wt_12 ⟨rfl, bt_12⟩
      have HBwt_12 := Lib.hid (Below.step HBwr0.out bt_12)
      replace Ff1_0 := cell_below bt_12 Ff1_0
      replace ct_10_0 := cell_below bt_12 ct_10_0
      replace ct_10_1 := cell_below bt_12 ct_10_1
      replace ct_10_2 := cell_below bt_12 ct_10_2
      replace ct_10_3 := cell_below bt_12 ct_10_3
      replace ct_10_4 := cell_below bt_12 ct_10_4
      replace ct_10_5 := cell_below bt_12 ct_10_5
      clear bt_12
      cases t_12 with
      | false =>
        replace H := ite_f H
        replace H := app_hid H
        go_wp2_with fail
        go_roundg m0
        case measure => omega
        case rel => exact ⟨k0 + 1, by omega, by go_num, H, HBwt_12, Ff1_0⟩
      | true =>
        replace H := ite_t H
        obtain rfl := ret_hid H
        go_wp2_with fail
        go_ret
        exact ⟨rfl, HBwt_12.out⟩
end Go.Proofs.YtgimcnpkngpmiaaGreatDoor.GxSlicesIndexFuncLoopExampleG01062ImplPostmarkLoopExampleG01062ImplPostmarkiMarksOf1

/- slices.DeleteFunc[[]loop.example/g01062/impl.Postmark,loop.example/g01062/impl.Postmark] as a plain function, and the contract of the program's: where the plain one has an answer, the program has it. Conditions: slices read as lists. -/
namespace Go.Proofs.YtgimcnpkngpmiaaGreatDoor.GxSlicesDeleteFuncLoopExampleG01062ImplPostmarkLoopExampleG01062ImplPostmarkiMarksOf1
set_option linter.unusedVariables false
set_option linter.unusedSimpArgs false
open Go.RowKit
open Go.Proofs.YtgimcnpkngpmiaaGreatDoor.Rowed Go.Proofs.YtgimcnpkngpmiaaGreatDoor.Turn Go.Proofs.YtgimcnpkngpmiaaGreatDoor.Aid Go.Proofs.YtgimcnpkngpmiaaGreatDoor.GoP Go.Proofs.YtgimcnpkngpmiaaGreatDoor.GoM

def l0 (hf1_0 : ByteArray) (s : (List Go.Proofs.YtgimcnpkngpmiaaGreatDoor.PPostmark.Postmark) × Int × Int) (nx0 bk0 : (List Go.Proofs.YtgimcnpkngpmiaaGreatDoor.PPostmark.Postmark) × Int × Int → Option ((List Go.Proofs.YtgimcnpkngpmiaaGreatDoor.PPostmark.Postmark))) : Option ((List Go.Proofs.YtgimcnpkngpmiaaGreatDoor.PPostmark.Postmark)) :=
  unp3 s fun s_0l0 i_5l0 j_6l0 =>
  letK (decide (j_6l0 < (s_0l0.length : Int))) fun (t_15 : Bool) =>
  iteK t_15
  (Option.bind (idx s_0l0 j_6l0) fun (yt_18 : Go.Proofs.YtgimcnpkngpmiaaGreatDoor.PPostmark.Postmark) =>
  unPostmark yt_18 fun (t_18_id : Int) (t_18_town : ByteArray) (t_18_kind_ : Int) (t_18_first : Int) (t_18_last : Int) (t_18_lost : ByteArray) =>
  Option.bind (Go.Proofs.YtgimcnpkngpmiaaGreatDoor.GiMarksOf1.P (Go.Proofs.YtgimcnpkngpmiaaGreatDoor.PPostmark.Postmark.mk t_18_id t_18_town t_18_kind_ t_18_first t_18_last t_18_lost) hf1_0) fun (t_24 : Bool) =>
  letK (!t_24) fun (t_25 : Bool) =>
  iteK t_25
  (Option.bind (idx s_0l0 i_5l0) fun (yt_29 : Go.Proofs.YtgimcnpkngpmiaaGreatDoor.PPostmark.Postmark) =>
  unPostmark yt_29 fun (t_29_id : Int) (t_29_town : ByteArray) (t_29_kind_ : Int) (t_29_first : Int) (t_29_last : Int) (t_29_lost : ByteArray) =>
  letK (s_0l0.set (i_5l0).toNat (Go.Proofs.YtgimcnpkngpmiaaGreatDoor.PPostmark.Postmark.mk t_18_id t_18_town t_18_kind_ t_18_first t_18_last t_18_lost)) fun (l30_30 : (List Go.Proofs.YtgimcnpkngpmiaaGreatDoor.PPostmark.Postmark)) =>
  letK (IntKind.i64.wrap (i_5l0 + 1)) fun (t_32 : Int) =>
  letK (IntKind.i64.wrap (j_6l0 + 1)) fun (t_35 : Int) =>
  appK nx0 (l30_30, t_32, t_35))
  (letK (IntKind.i64.wrap (j_6l0 + 1)) fun (t_35 : Int) =>
  appK nx0 (s_0l0, i_5l0, t_35)))
  (appK bk0 (s_0l0, i_5l0, j_6l0))

def e0  (s : (List Go.Proofs.YtgimcnpkngpmiaaGreatDoor.PPostmark.Postmark) × Int × Int) : Option ((List Go.Proofs.YtgimcnpkngpmiaaGreatDoor.PPostmark.Postmark)) :=
  unp3 s fun s_0l0 i_5l0 j_6l0 =>
  guardK ((0 : Int) ≤ i_5l0 ∧ (i_5l0 : Int) ≤ (s_0l0.length : Int)) <|
  letK (List.take (Int.toNat i_5l0) s_0l0 ++ List.replicate (s_0l0.length - Int.toNat i_5l0) (Go.Proofs.YtgimcnpkngpmiaaGreatDoor.PPostmark.Postmark.mk 0 ByteArray.empty 0 0 0 ByteArray.empty)) fun (cl_40 : (List Go.Proofs.YtgimcnpkngpmiaaGreatDoor.PPostmark.Postmark)) =>
  guardK ((0 : Int) ≤ i_5l0 ∧ (i_5l0 : Int) ≤ (cl_40.length : Int)) <|
  letK (List.take (Int.toNat i_5l0) cl_40) fun (t_43 : (List Go.Proofs.YtgimcnpkngpmiaaGreatDoor.PPostmark.Postmark)) =>
  some t_43

def P (fuel : Nat) (s_0 : (List Go.Proofs.YtgimcnpkngpmiaaGreatDoor.PPostmark.Postmark)) (hf1_0 : ByteArray) : Option ((List Go.Proofs.YtgimcnpkngpmiaaGreatDoor.PPostmark.Postmark)) :=
  Option.bind (Go.Proofs.YtgimcnpkngpmiaaGreatDoor.GxSlicesIndexFuncLoopExampleG01062ImplPostmarkLoopExampleG01062ImplPostmarkiMarksOf1.P s_0 hf1_0) fun (t_3 : Int) =>
  letK (t_3 == (-1)) fun (t_6 : Bool) =>
  iteK t_6
  (some s_0)
  (letK (IntKind.i64.wrap (t_3 + 1)) fun (t_10 : Int) =>
  loopK (l0 hf1_0) fuel (s_0, t_3, t_10) (e0 ))

set_option maxRecDepth 100000 in
set_option maxHeartbeats 2000000 in
theorem C (fuel : Nat) (s_0 : (List Go.Proofs.YtgimcnpkngpmiaaGreatDoor.PPostmark.Postmark)) (hf1_0 : ByteArray) (A0 : Option Addr) (c0 : Nat) (gf1_0 : Nat) (b0 : Nat) (w : World) (M0 : Hid (w.ownsRow b0 34 6 (.slice A0 s_0.length c0) s_0.length (Go.Proofs.YtgimcnpkngpmiaaGreatDoor.PPostmark.flat s_0))) (N0 : Hid (s_0.length ≤ 9223372036854775807)) (Ff1_0h : Hid (w.cell? ⟨gf1_0, 0, none⟩ = some (.string hf1_0))) (LB : Hid (b0 ≤ w.heap.size)) (XHgf1_0 : Hid (Apart A0 (some ⟨gf1_0, 0, none⟩))) {r : (List Go.Proofs.YtgimcnpkngpmiaaGreatDoor.PPostmark.Postmark)} (H : Hid (P fuel s_0 hf1_0 = some r)) :
    Calls Tryz.prog 66 #[.slice A0 s_0.length c0, .func (.func 67) #[] #[.pointer (some ⟨gf1_0, 0, none⟩)]] w (fun e w' => ∃ A_r c_r, e = .returned (.slice A_r r.length c_r) ∧ w'.ownsRow b0 34 6 (.slice A_r r.length c_r) r.length (Go.Proofs.YtgimcnpkngpmiaaGreatDoor.PPostmark.flat r) ∧ w.grownBy w' (Value.slice A0 s_0.length c0).ownBlock ∧ Go.Proofs.YtgimcnpkngpmiaaGreatDoor.GoK.From w A0 A_r) := by
  have HB := Lib.hid (Aid.grown_refl w (Value.slice A0 s_0.length c0).ownBlock)
  unfold P at H
  have N0o := N0.out
  have Ff1_0 := Ff1_0h.out
  obtain ⟨i0_34, hi_34, hz0_34, hz1_34, hz2_34⟩ := Aid.info_parts (P := Tryz.prog) (T := 34) (z := .agg #[.int .i64 0, .string ByteArray.empty, .int .i64 0, .int .i64 0, .int .i64 0, .string ByteArray.empty]) (s := 6) (b := 64) (by kernel_rfl)
  go_enter Tryz.func66, Tryz.ntmps66
  replace H := bind_hid H
  obtain ⟨t_3, qt_3, H⟩ := H
  go_wp2_with fail
  go_at_call 56
  refine (Go.Proofs.YtgimcnpkngpmiaaGreatDoor.GxSlicesIndexFuncLoopExampleG01062ImplPostmarkLoopExampleG01062ImplPostmarkiMarksOf1.C (s_0) (hf1_0) A0 c0 (gf1_0) _   (Lib.hid (own_cells M0.out)) (Lib.hid (own_max M0.out)) (Lib.hid Ff1_0) qt_3).mono ?_
  rintro e_t_3 wt_3 ⟨rfl, bt_3⟩
  have HBwt_3 := Lib.hid (grown_below HB.out bt_3)
  replace Ff1_0 := cell_below bt_3 Ff1_0
  replace M0 := Lib.hid (own_below M0.out bt_3)
  clear bt_3
  replace H := let_hid H
  obtain ⟨t_6, ht_6, H⟩ := H
  cases t_6 with
  | false =>
    replace H := ite_f H
    replace H := let_hid H
    obtain ⟨t_10, ht_10, H⟩ := H
    go_wp2_with fail
    go_wp2_with fail
    go_loopg [5, 6] (fuel) (fun m_ v5_ v6_ wr => ∃ (s_0l0 : (List Go.Proofs.YtgimcnpkngpmiaaGreatDoor.PPostmark.Postmark)) (i_5l0 : Int) (j_6l0 : Int), v5_ = .int .i64 i_5l0 ∧ v6_ = .int .i64 j_6l0 ∧ Hid (loopK (l0 hf1_0) m_ (s_0l0, i_5l0, j_6l0) (e0 ) = some r) ∧ Hid (w.grownBy wr (Value.slice A0 s_0.length c0).ownBlock) ∧ wr.cell? ⟨gf1_0, 0, none⟩ = some (.string hf1_0) ∧ Hid (wr.ownsRow b0 34 6 (.slice A0 s_0.length c0) s_0.length (Go.Proofs.YtgimcnpkngpmiaaGreatDoor.PPostmark.flat s_0l0)) ∧ Hid (s_0l0.length = s_0.length))
    case atStart => exact ⟨_, _, _, rfl, rfl, H, HBwt_3, Ff1_0, M0, Lib.hid (rfl)⟩
    case round =>
      obtain ⟨s_0l0, i_5l0, j_6l0, rfl, rfl, H, HBwr0, Ff1_0, Os_0l0, hns_0l0⟩ := hrel
      rename World => wr0
      cases gk with
      | zero => exact (loop_zero H).elim
      | succ m0 =>
        replace H := loop_succ H
        unfold l0 at H
        replace H := unp3_hid H
        try rw [show s_0l0.length = s_0.length from hns_0l0.out] at H
        replace H := let_hid H
        obtain ⟨t_15, ht_15, H⟩ := H
        cases t_15 with
        | false =>
          replace H := ite_f H
          replace H := app_hid H
          unfold e0 at H
          replace H := unp3_hid H
          try rw [show s_0l0.length = s_0.length from hns_0l0.out] at H
          replace H := guard_hid H
          obtain ⟨hl_cl_40, H⟩ := H
          replace H := let_hid H
          obtain ⟨cl_40, hcl_40, H⟩ := H
          have dcl_40 : ((Go.Proofs.YtgimcnpkngpmiaaGreatDoor.PPostmark.flat s_0l0)).take (Int.toNat i_5l0 * 6) ++ (List.replicate (s_0.length - Int.toNat i_5l0) [.int .i64 0, .string (⟨#[]⟩ : ByteArray), .int .i64 0, .int .i64 0, .int .i64 0, .string (⟨#[]⟩ : ByteArray)]).flatten = (Go.Proofs.YtgimcnpkngpmiaaGreatDoor.PPostmark.flat cl_40) := by rw [← hcl_40]; exact Go.Proofs.YtgimcnpkngpmiaaGreatDoor.GoD.flat_clear Go.Proofs.YtgimcnpkngpmiaaGreatDoor.PPostmark.Postmark.cells 6 (fun _ => rfl) s_0l0 (Int.toNat i_5l0) (s_0.length - Int.toNat i_5l0) ((Go.Proofs.YtgimcnpkngpmiaaGreatDoor.PPostmark.Postmark.mk 0 ByteArray.empty 0 0 0 ByteArray.empty))
          have ncl_40 : Hid (cl_40.length = s_0.length) := Lib.hid (by have hq_ := hns_0l0.out; rw [← hcl_40, List.length_append, List.length_take, List.length_replicate]; omega)
          obtain ⟨Acl_40, mcl_40, ccl_40, wcl_40, rcl_40, ucl_40, ocl_40, gcl_40⟩ := Go.Proofs.YtgimcnpkngpmiaaGreatDoor.GoD.own_clearK (P := Tryz.prog) (t := 24) (e := 34) (k := .i64) (zs := [.int .i64 0, .string (⟨#[]⟩ : ByteArray), .int .i64 0, .int .i64 0, .int .i64 0, .string (⟨#[]⟩ : ByteArray)]) (by kernel_rfl) (by kernel_rfl) hi_34 hz1_34 hz0_34 (by rfl) (by rfl) (by decide) (by intro u_ hu_; simp only [List.mem_cons, List.not_mem_nil, or_false] at hu_; rcases hu_ with rfl | rfl | rfl | rfl | rfl | rfl <;> rfl) Os_0l0.out hl_cl_40 dcl_40
          have Pcl_40 := Lib.hid ocl_40
          have Gcl_40 := Lib.hid gcl_40
          clear ocl_40 gcl_40 dcl_40 hl_cl_40
          have hhcl_40 := Lib.hid hcl_40
          clear hcl_40
          have HBwcl_40 := Lib.hid (Aid.grown_tr HBwr0.out Gcl_40.out)
          have Ff1_0__462 := cell_other Ff1_0 Gcl_40.out XHgf1_0.out
          clear Os_0l0 Gcl_40
          replace H := guard_hid H
          obtain ⟨hl_t_43, H⟩ := H
          replace H := let_hid H
          obtain ⟨t_43, ht_43, H⟩ := H
          have dt_43 : ((Go.Proofs.YtgimcnpkngpmiaaGreatDoor.PPostmark.flat cl_40)).take (Int.toNat i_5l0 * 6) = (Go.Proofs.YtgimcnpkngpmiaaGreatDoor.PPostmark.flat t_43) := by
            rw [← ht_43]
            exact flat_take Go.Proofs.YtgimcnpkngpmiaaGreatDoor.PPostmark.Postmark.cells 6 (fun _ => rfl) _ _
          have nt_43 : Int.toNat i_5l0 = t_43.length := by rw [← ht_43, List.length_take]; have h_ := ncl_40.out; omega
          replace hl_t_43 : (0 : Int) ≤ i_5l0 ∧ (i_5l0 : Int) ≤ ((s_0.length : Nat) : Int) := by have h_ := ncl_40.out; omega
          obtain ⟨rt_43, Ot_43⟩ := slice_head (P := Tryz.prog) (t := 24) (e := 34) (k := .i64) (by kernel_rfl) (by kernel_rfl) hi_34 hz1_34 Pcl_40.out hl_t_43 nt_43 dt_43
          replace Ot_43 := Lib.hid Ot_43
          clear dt_43 nt_43 hl_t_43
          have hht_43 := Lib.hid ht_43
          clear ht_43
          obtain rfl := ret_hid H
          go_wp2_with fail
          go_ret
          exact ⟨A0, c0, rfl, Ot_43.out, HBwcl_40.out, Go.Proofs.YtgimcnpkngpmiaaGreatDoor.GoK.from_self⟩
        | true =>
          replace H := ite_t H
          replace H := idx_hid H
          obtain ⟨nt_18, yt_18, et_18, lt_18, gt_18, H⟩ := H
          subst et_18
          have nc_463 : nt_18 < s_0.length := by have := of_decide_eq_true ht_15; omega
          obtain ⟨t_18_id, t_18_town, t_18_kind_, t_18_first, t_18_last, t_18_lost⟩ := yt_18
          replace H := unPostmark_hid H
          have hqt_18 := hns_0l0.out
          obtain ⟨qt_18, Qt_18⟩ := own_some Os_0l0.out (by omega)
          subst Qt_18
          obtain ⟨ab_t_18, ao_t_18, zt_18, At_18, z_t_18, ct_18_0, ct_18_1, ct_18_2, ct_18_3, ct_18_4, ct_18_5⟩ := Go.Proofs.YtgimcnpkngpmiaaGreatDoor.OPostmark.at_ (own_cells Os_0l0.out) (k := nt_18) (by omega)
          obtain rfl := Option.some.inj (gt_18.out.symm.trans z_t_18)
          simp only [Option.some.injEq, Addr.mk.injEq] at At_18
          obtain ⟨rfl, rfl, _⟩ := At_18
          clear z_t_18
          simp only [Nat.zero_add] at ct_18_0 ct_18_1 ct_18_2 ct_18_3 ct_18_4 ct_18_5
          have b0t_18 : (0 : Int) ≤ (nt_18 : Int) := by omega
          have b1t_18 : (nt_18 : Int) < ((s_0.length : Nat) : Int) := by omega
          have b2t_18 : ((nt_18 : Int)).toNat = nt_18 := by omega
          clear hqt_18
          obtain ⟨w_v_20, hw_v_20⟩ : ∃ x, wr0.alloc (.cells #[.int .i64 t_18_id, .string t_18_town, .int .i64 t_18_kind_, .int .i64 t_18_first, .int .i64 t_18_last, .string t_18_lost] 34) = x := ⟨_, rfl⟩
          have bw_v_20 : Below wr0.heap.size wr0 w_v_20 := by rw [← hw_v_20]; exact (Below.refl _ _).alloc (Nat.le_refl _) _
          have Dv_20_s_0l0 := Lib.hid (apart_fresh Os_0l0.out)
          have HBw_v_20 := Lib.hid (grown_below HBwr0.out bw_v_20)
          have Ff1_0__464 := cell_below bw_v_20 Ff1_0
          have ct_18_0__465 := cell_below bw_v_20 ct_18_0
          have ct_18_1__466 := cell_below bw_v_20 ct_18_1
          have ct_18_2__467 := cell_below bw_v_20 ct_18_2
          have ct_18_3__468 := cell_below bw_v_20 ct_18_3
          have ct_18_4__469 := cell_below bw_v_20 ct_18_4
          have ct_18_5__470 := cell_below bw_v_20 ct_18_5
          replace Os_0l0 := Lib.hid (own_below Os_0l0.out bw_v_20)
          clear bw_v_20
          have kv_20_0 : w_v_20.cell? ⟨wr0.heap.size, 0, none⟩ = some (.int .i64 t_18_id) := by rw [← hw_v_20]; exact box_new _ _ _ 0 _ rfl
          have kv_20_1 : w_v_20.cell? ⟨wr0.heap.size, 1, none⟩ = some (.string t_18_town) := by rw [← hw_v_20]; exact box_new _ _ _ 1 _ rfl
          have kv_20_2 : w_v_20.cell? ⟨wr0.heap.size, 2, none⟩ = some (.int .i64 t_18_kind_) := by rw [← hw_v_20]; exact box_new _ _ _ 2 _ rfl
          have kv_20_3 : w_v_20.cell? ⟨wr0.heap.size, 3, none⟩ = some (.int .i64 t_18_first) := by rw [← hw_v_20]; exact box_new _ _ _ 3 _ rfl
          have kv_20_4 : w_v_20.cell? ⟨wr0.heap.size, 4, none⟩ = some (.int .i64 t_18_last) := by rw [← hw_v_20]; exact box_new _ _ _ 4 _ rfl
          have kv_20_5 : w_v_20.cell? ⟨wr0.heap.size, 5, none⟩ = some (.string t_18_lost) := by rw [← hw_v_20]; exact box_new _ _ _ 5 _ rfl
          replace H := bind_hid H
          obtain ⟨t_24, qt_24, H⟩ := H
          go_wp2_with fail
          clear Ff1_0 ct_18_0 ct_18_1 ct_18_2 ct_18_3 ct_18_4 ct_18_5
          go_at_call 67
          refine (Go.Proofs.YtgimcnpkngpmiaaGreatDoor.GiMarksOf1.C ((Go.Proofs.YtgimcnpkngpmiaaGreatDoor.PPostmark.Postmark.mk t_18_id t_18_town t_18_kind_ t_18_first t_18_last t_18_lost)) (hf1_0) (gf1_0) _   (Lib.hid Ff1_0__464) qt_24).mono ?_
          rintro e_t_24 wt_24 ⟨rfl, bt_24⟩
          have HBwt_24 := Lib.hid (grown_below HBw_v_20.out bt_24)
          replace Ff1_0__464 := cell_below bt_24 Ff1_0__464
          replace ct_18_0__465 := cell_below bt_24 ct_18_0__465
          replace ct_18_1__466 := cell_below bt_24 ct_18_1__466
          replace ct_18_2__467 := cell_below bt_24 ct_18_2__467
          replace ct_18_3__468 := cell_below bt_24 ct_18_3__468
          replace ct_18_4__469 := cell_below bt_24 ct_18_4__469
          replace ct_18_5__470 := cell_below bt_24 ct_18_5__470
          replace kv_20_0 := cell_below bt_24 kv_20_0
          replace kv_20_1 := cell_below bt_24 kv_20_1
          replace kv_20_2 := cell_below bt_24 kv_20_2
          replace kv_20_3 := cell_below bt_24 kv_20_3
          replace kv_20_4 := cell_below bt_24 kv_20_4
          replace kv_20_5 := cell_below bt_24 kv_20_5
          replace Os_0l0 := Lib.hid (own_below Os_0l0.out bt_24)
          clear bt_24
          cases t_24 with
          | false =>
            replace H := let_hid H
            obtain ⟨t_25, ht_25, H⟩ := H
            obtain rfl : t_25 = true := ht_25.symm
            replace H := ite_t H
            replace H := idx_hid H
            obtain ⟨nt_29, yt_29, et_29, lt_29, gt_29, H⟩ := H
            subst et_29
            obtain ⟨t_29_id, t_29_town, t_29_kind_, t_29_first, t_29_last, t_29_lost⟩ := yt_29
            replace H := unPostmark_hid H
            have hqt_29 := hns_0l0.out
            obtain ⟨ab_t_29, ao_t_29, zt_29, At_29, z_t_29, ct_29_0, ct_29_1, ct_29_2, ct_29_3, ct_29_4, ct_29_5⟩ := Go.Proofs.YtgimcnpkngpmiaaGreatDoor.OPostmark.at_ (own_cells Os_0l0.out) (k := nt_29) (by omega)
            obtain rfl := Option.some.inj (gt_29.out.symm.trans z_t_29)
            simp only [Option.some.injEq, Addr.mk.injEq] at At_29
            obtain ⟨rfl, rfl, _⟩ := At_29
            clear z_t_29
            simp only [Nat.zero_add] at ct_29_0 ct_29_1 ct_29_2 ct_29_3 ct_29_4 ct_29_5
            have b0t_29 : (0 : Int) ≤ (nt_29 : Int) := by omega
            have b1t_29 : (nt_29 : Int) < ((s_0.length : Nat) : Int) := by omega
            have b2t_29 : ((nt_29 : Int)).toNat = nt_29 := by omega
            clear hqt_29
            replace H := let_hid H
            obtain ⟨l30_30, hl30_30, H⟩ := H
            try simp only [Int.toNat_natCast] at hl30_30
            obtain ⟨wl30_30, hwl30_30⟩ : ∃ x, ((((((wt_24).setCell ⟨qt_18, nt_29 * 6, none⟩ (.int .i64 t_18_id)).setCell ⟨qt_18, nt_29 * 6 + 1, none⟩ (.string t_18_town)).setCell ⟨qt_18, nt_29 * 6 + 2, none⟩ (.int .i64 t_18_kind_)).setCell ⟨qt_18, nt_29 * 6 + 3, none⟩ (.int .i64 t_18_first)).setCell ⟨qt_18, nt_29 * 6 + 4, none⟩ (.int .i64 t_18_last)).setCell ⟨qt_18, nt_29 * 6 + 5, none⟩ (.string t_18_lost) = x := ⟨_, rfl⟩
            have z0l30_30 := Os_0l0.out.frozenAt (nt_29 * 6)
            have z1l30_30 := Os_0l0.out.frozenAt (nt_29 * 6 + 1)
            have z2l30_30 := Os_0l0.out.frozenAt (nt_29 * 6 + 2)
            have z3l30_30 := Os_0l0.out.frozenAt (nt_29 * 6 + 3)
            have z4l30_30 := Os_0l0.out.frozenAt (nt_29 * 6 + 4)
            have z5l30_30 := Os_0l0.out.frozenAt (nt_29 * 6 + 5)
            have Sl30_30 := Lib.hid (own_stores [(nt_29 * 6, .int .i64 t_18_id), (nt_29 * 6 + 1, .string t_18_town), (nt_29 * 6 + 2, .int .i64 t_18_kind_), (nt_29 * 6 + 3, .int .i64 t_18_first), (nt_29 * 6 + 4, .int .i64 t_18_last), (nt_29 * 6 + 5, .string t_18_lost)] Os_0l0.out)
            have nl30_30 : Hid (l30_30.length = s_0.length) := Lib.hid (by rw [← hl30_30, List.length_set]; exact hns_0l0.out)
            have Pl30_30 : Hid (wl30_30.ownsRow b0 34 6 (.slice (some ⟨qt_18, 0, none⟩) s_0.length c0) s_0.length (Go.Proofs.YtgimcnpkngpmiaaGreatDoor.PPostmark.flat l30_30)) := Lib.hid (by have es_ := set_self gt_29.out; have e0_ := flat_set Go.Proofs.YtgimcnpkngpmiaaGreatDoor.PPostmark.Postmark.cells 6 (fun _ => rfl) s_0l0 (nt_29) 0 (Go.Proofs.YtgimcnpkngpmiaaGreatDoor.PPostmark.Postmark.mk t_29_id t_29_town t_29_kind_ t_29_first t_29_last t_29_lost) (Go.Proofs.YtgimcnpkngpmiaaGreatDoor.PPostmark.Postmark.mk t_18_id t_29_town t_29_kind_ t_29_first t_29_last t_29_lost) (.int .i64 t_18_id) lt_29 (by decide) rfl; have e1_ := flat_set Go.Proofs.YtgimcnpkngpmiaaGreatDoor.PPostmark.Postmark.cells 6 (fun _ => rfl) s_0l0 (nt_29) 1 (Go.Proofs.YtgimcnpkngpmiaaGreatDoor.PPostmark.Postmark.mk t_18_id t_29_town t_29_kind_ t_29_first t_29_last t_29_lost) (Go.Proofs.YtgimcnpkngpmiaaGreatDoor.PPostmark.Postmark.mk t_18_id t_18_town t_29_kind_ t_29_first t_29_last t_29_lost) (.string t_18_town) lt_29 (by decide) rfl; have e2_ := flat_set Go.Proofs.YtgimcnpkngpmiaaGreatDoor.PPostmark.Postmark.cells 6 (fun _ => rfl) s_0l0 (nt_29) 2 (Go.Proofs.YtgimcnpkngpmiaaGreatDoor.PPostmark.Postmark.mk t_18_id t_18_town t_29_kind_ t_29_first t_29_last t_29_lost) (Go.Proofs.YtgimcnpkngpmiaaGreatDoor.PPostmark.Postmark.mk t_18_id t_18_town t_18_kind_ t_29_first t_29_last t_29_lost) (.int .i64 t_18_kind_) lt_29 (by decide) rfl; have e3_ := flat_set Go.Proofs.YtgimcnpkngpmiaaGreatDoor.PPostmark.Postmark.cells 6 (fun _ => rfl) s_0l0 (nt_29) 3 (Go.Proofs.YtgimcnpkngpmiaaGreatDoor.PPostmark.Postmark.mk t_18_id t_18_town t_18_kind_ t_29_first t_29_last t_29_lost) (Go.Proofs.YtgimcnpkngpmiaaGreatDoor.PPostmark.Postmark.mk t_18_id t_18_town t_18_kind_ t_18_first t_29_last t_29_lost) (.int .i64 t_18_first) lt_29 (by decide) rfl; have e4_ := flat_set Go.Proofs.YtgimcnpkngpmiaaGreatDoor.PPostmark.Postmark.cells 6 (fun _ => rfl) s_0l0 (nt_29) 4 (Go.Proofs.YtgimcnpkngpmiaaGreatDoor.PPostmark.Postmark.mk t_18_id t_18_town t_18_kind_ t_18_first t_29_last t_29_lost) (Go.Proofs.YtgimcnpkngpmiaaGreatDoor.PPostmark.Postmark.mk t_18_id t_18_town t_18_kind_ t_18_first t_18_last t_29_lost) (.int .i64 t_18_last) lt_29 (by decide) rfl; have e5_ := flat_set Go.Proofs.YtgimcnpkngpmiaaGreatDoor.PPostmark.Postmark.cells 6 (fun _ => rfl) s_0l0 (nt_29) 5 (Go.Proofs.YtgimcnpkngpmiaaGreatDoor.PPostmark.Postmark.mk t_18_id t_18_town t_18_kind_ t_18_first t_18_last t_29_lost) (Go.Proofs.YtgimcnpkngpmiaaGreatDoor.PPostmark.Postmark.mk t_18_id t_18_town t_18_kind_ t_18_first t_18_last t_18_lost) (.string t_18_lost) lt_29 (by decide) rfl; rw [es_] at e0_; have e_ : ([(nt_29 * 6, .int .i64 t_18_id), (nt_29 * 6 + 1, .string t_18_town), (nt_29 * 6 + 2, .int .i64 t_18_kind_), (nt_29 * 6 + 3, .int .i64 t_18_first), (nt_29 * 6 + 4, .int .i64 t_18_last), (nt_29 * 6 + 5, .string t_18_lost)] : List (Nat × Value)).foldl (fun xs p => xs.set p.1 p.2) (Go.Proofs.YtgimcnpkngpmiaaGreatDoor.PPostmark.flat s_0l0) = (Go.Proofs.YtgimcnpkngpmiaaGreatDoor.PPostmark.flat l30_30) := (by rw [← hl30_30]; show _ = List.flatMap Go.Proofs.YtgimcnpkngpmiaaGreatDoor.PPostmark.Postmark.cells _; first | (rw [← e5_, ← e4_, ← e3_, ← e2_, ← e1_, ← e0_]; first | done | rfl) | (rw [← e5_, ← e4_, ← e3_, ← e2_, ← e1_, es_, ← e0_]; first | done | rfl)); rw [← hwl30_30, ← e_]; exact Sl30_30.out.1)
            have Gl30_30 : Hid (wt_24.grownBy wl30_30 (Value.slice (some ⟨qt_18, 0, none⟩) s_0.length c0).ownBlock) := Lib.hid (by rw [← hwl30_30]; exact Sl30_30.out.2)
            have HBwl30_30 := Lib.hid (Aid.grown_tr HBwt_24.out Gl30_30.out)
            have hhl30_30 := Lib.hid hl30_30
            clear hl30_30 Sl30_30
            have Ff1_0__471 := cell_other Ff1_0__464 Gl30_30.out XHgf1_0.out
            have kv_20_0__472 := cell_other kv_20_0 Gl30_30.out (Apart.symm Dv_20_s_0l0.out)
            have kv_20_1__473 := cell_other kv_20_1 Gl30_30.out (Apart.symm Dv_20_s_0l0.out)
            have kv_20_2__474 := cell_other kv_20_2 Gl30_30.out (Apart.symm Dv_20_s_0l0.out)
            have kv_20_3__475 := cell_other kv_20_3 Gl30_30.out (Apart.symm Dv_20_s_0l0.out)
            have kv_20_4__476 := cell_other kv_20_4 Gl30_30.out (Apart.symm Dv_20_s_0l0.out)
            have kv_20_5__477 := cell_other kv_20_5 Gl30_30.out (Apart.symm Dv_20_s_0l0.out)
            clear Os_0l0 Gl30_30
            replace H := let_hid H
            obtain ⟨t_32, ht_32, H⟩ := H
            replace H := let_hid H
            obtain ⟨t_35, ht_35, H⟩ := H
            replace H := app_hid H
            go_wp2_with fail
            clear z0l30_30 z1l30_30 z2l30_30 z3l30_30 z4l30_30 z5l30_30 Ff1_0__464 ct_18_0__465 ct_18_1__466 ct_18_2__467 ct_18_3__468 ct_18_4__469 ct_18_5__470 kv_20_0 kv_20_1 kv_20_2 kv_20_3 kv_20_4 kv_20_5 ct_29_0 ct_29_1 ct_29_2 ct_29_3 ct_29_4 ct_29_5
            go_roundg m0
            case measure => omega
            case rel => exact ⟨_, _, _, rfl, rfl, H, HBwl30_30, Ff1_0__471, Pl30_30, Lib.hid (nl30_30.out)⟩
          | true =>
            replace H := let_hid H
            obtain ⟨t_25, ht_25, H⟩ := H
            obtain rfl : t_25 = false := ht_25.symm
            replace H := ite_f H
            replace H := let_hid H
            obtain ⟨t_35, ht_35, H⟩ := H
            replace H := app_hid H
            go_wp2_with fail
            go_roundg m0
            case measure => omega
            case rel => exact ⟨_, _, _, rfl, rfl, H, HBwt_24, Ff1_0__464, Os_0l0, Lib.hid (hns_0l0.out)⟩
  | true =>
    replace H := ite_t H
    obtain rfl := ret_hid H
    go_wp2_with fail
    go_ret
    exact ⟨A0, c0, rfl, M0.out, HBwt_3.out, Go.Proofs.YtgimcnpkngpmiaaGreatDoor.GoK.from_self⟩
end Go.Proofs.YtgimcnpkngpmiaaGreatDoor.GxSlicesDeleteFuncLoopExampleG01062ImplPostmarkLoopExampleG01062ImplPostmarkiMarksOf1

/- loop.example/g01062/impl.marksOf as a plain function, and the contract of the program's: where the plain one has an answer, the program has it. Conditions: slices read as lists. -/
namespace Go.Proofs.YtgimcnpkngpmiaaGreatDoor.GiMarksOf
set_option linter.unusedVariables false
set_option linter.unusedSimpArgs false
open Go.RowKit
open Go.Proofs.YtgimcnpkngpmiaaGreatDoor.Rowed Go.Proofs.YtgimcnpkngpmiaaGreatDoor.Turn Go.Proofs.YtgimcnpkngpmiaaGreatDoor.Aid Go.Proofs.YtgimcnpkngpmiaaGreatDoor.GoP Go.Proofs.YtgimcnpkngpmiaaGreatDoor.GoM

def P (fuel : Nat) (list : (List Go.Proofs.YtgimcnpkngpmiaaGreatDoor.PPostmark.Postmark)) (town : ByteArray) : Option ((List Go.Proofs.YtgimcnpkngpmiaaGreatDoor.PPostmark.Postmark)) :=
  Option.bind (Go.Proofs.YtgimcnpkngpmiaaGreatDoor.GiArePostmarks.P list) fun (t_3 : Bool) =>
  letK (!t_3) fun (t_4 : Bool) =>
  iteK t_4
  (some ([] : List Go.Proofs.YtgimcnpkngpmiaaGreatDoor.PPostmark.Postmark))
  (Option.bind (Go.Proofs.YtgimcnpkngpmiaaGreatDoor.GxSlicesCloneLoopExampleG01062ImplPostmarkLoopExampleG01062ImplPostmark.P list) fun (t_8 : (List Go.Proofs.YtgimcnpkngpmiaaGreatDoor.PPostmark.Postmark)) =>
  Option.bind (Go.Proofs.YtgimcnpkngpmiaaGreatDoor.GxSlicesDeleteFuncLoopExampleG01062ImplPostmarkLoopExampleG01062ImplPostmarkiMarksOf1.P fuel t_8 town) fun (t_10 : (List Go.Proofs.YtgimcnpkngpmiaaGreatDoor.PPostmark.Postmark)) =>
  some t_10)

set_option maxRecDepth 100000 in
set_option maxHeartbeats 2000000 in
theorem C (fuel : Nat) (list : (List Go.Proofs.YtgimcnpkngpmiaaGreatDoor.PPostmark.Postmark)) (town : ByteArray) (A0 : Option Addr) (c0 : Nat)  (w : World) (M0 : Hid (Cells w 6 A0 list.length (Go.Proofs.YtgimcnpkngpmiaaGreatDoor.PPostmark.flat list))) (N0 : Hid (list.length ≤ 9223372036854775807)) (Q0 : Hid (Room A0 list.length c0))  {r : (List Go.Proofs.YtgimcnpkngpmiaaGreatDoor.PPostmark.Postmark)} (H : Hid (P fuel list town = some r)) :
    Calls Tryz.prog 39 #[.slice A0 list.length c0, .string town] w (fun e w' => ∃ A_r c_r, e = .returned (.slice A_r r.length c_r) ∧ w'.ownsRow w.heap.size 34 6 (.slice A_r r.length c_r) r.length (Go.Proofs.YtgimcnpkngpmiaaGreatDoor.PPostmark.flat r) ∧ Below w.heap.size w w') := by
  have HB := Lib.hid (Below.refl w.heap.size w)
  unfold P at H
  have N0o := N0.out
  go_enter Tryz.func39, Tryz.ntmps39
  obtain ⟨w_town_0, hw_town_0⟩ : ∃ x, w.alloc (.cells #[.string town] 9) = x := ⟨_, rfl⟩
  have bw_town_0 : Below w.heap.size w w_town_0 := by rw [← hw_town_0]; exact (Below.refl _ _).alloc (Nat.le_refl _) _
  have HBw_town_0 := Lib.hid (Below.step HB.out bw_town_0)
  clear bw_town_0
  have ktown_0_0 : w_town_0.cell? ⟨w.heap.size, 0, none⟩ = some (.string town) := by rw [← hw_town_0]; exact box_new _ _ _ 0 _ rfl
  replace H := bind_hid H
  obtain ⟨t_3, qt_3, H⟩ := H
  go_wp2_with fail
  go_at_call 31
  refine (Go.Proofs.YtgimcnpkngpmiaaGreatDoor.GiArePostmarks.C (list) A0 c0 _   (Lib.hid (Cells.below M0.out HBw_town_0.out)) N0 qt_3).mono ?_
  rintro e_t_3 wt_3 ⟨rfl, bt_3⟩
  have HBwt_3 := Lib.hid (Below.step HBw_town_0.out bt_3)
  replace ktown_0_0 := cell_below bt_3 ktown_0_0
  clear bt_3
  cases t_3 with
  | false =>
    replace H := let_hid H
    obtain ⟨t_4, ht_4, H⟩ := H
    obtain rfl : t_4 = true := ht_4.symm
    replace H := ite_t H
    obtain ⟨w_t_5, hw_t_5⟩ : ∃ x, wt_3.alloc (.cells #[] 34) = x := ⟨_, rfl⟩
    have bw_t_5 : Below wt_3.heap.size wt_3 w_t_5 := by rw [← hw_t_5]; exact (Below.refl _ _).alloc (Nat.le_refl _) _
    have Ot_5 : Hid (w_t_5.ownsRow w.heap.size 34 6 (.slice (some ⟨wt_3.heap.size, 0, none⟩) 0 0) 0 []) := Lib.hid (by rw [← hw_t_5]; exact own_empty HBwt_3.out.size)
    have Dt_5_town_0 := Lib.hid (apart_box ktown_0_0)
    have HBw_t_5 := Lib.hid (Below.step HBwt_3.out bw_t_5)
    have ktown_0_0__478 := cell_below bw_t_5 ktown_0_0
    clear bw_t_5
    obtain rfl := ret_hid H
    go_wp2_with fail
    go_ret
    exact ⟨(some ⟨wt_3.heap.size, 0, none⟩), 0, rfl, Ot_5.out, HBw_t_5.out⟩
  | true =>
    replace H := let_hid H
    obtain ⟨t_4, ht_4, H⟩ := H
    obtain rfl : t_4 = false := ht_4.symm
    replace H := ite_f H
    replace H := bind_hid H
    obtain ⟨t_8, qt_8, H⟩ := H
    go_wp2_with fail
    go_at_call 25
    refine (Go.Proofs.YtgimcnpkngpmiaaGreatDoor.GxSlicesCloneLoopExampleG01062ImplPostmarkLoopExampleG01062ImplPostmark.C (list) A0 c0 _   (Lib.hid (Cells.below M0.out HBwt_3.out)) N0 Q0 qt_8).mono ?_
    rintro e_t_8 wt_8 ⟨At_8, ct_8, rfl, ot_8, bt_8⟩
    have Dt_8_town_0 := Lib.hid (apart_callbox ot_8 ktown_0_0)
    have Ot_8 := Lib.hid (own_lower ot_8 HBwt_3.out.size)
    clear ot_8
    have HBwt_8 := Lib.hid (Below.step HBwt_3.out bt_8)
    replace ktown_0_0 := cell_below bt_8 ktown_0_0
    clear bt_8
    replace H := bind_hid H
    obtain ⟨t_10, qt_10, H⟩ := H
    go_wp2_with fail
    go_at_call 66
    refine (Go.Proofs.YtgimcnpkngpmiaaGreatDoor.GxSlicesDeleteFuncLoopExampleG01062ImplPostmarkLoopExampleG01062ImplPostmarkiMarksOf1.C fuel (t_8) (town) At_8 ct_8 (w.heap.size) w.heap.size _   Ot_8 (Lib.hid (own_max Ot_8.out)) (Lib.hid ktown_0_0) (Lib.hid HBwt_8.out.size) (Lib.hid Dt_8_town_0.out) qt_10).mono ?_
    rintro e_t_10 wt_10 ⟨At_10, ct_10, rfl, ot_10, gt_10, yt_10⟩
    have Pt_10 := Lib.hid ot_10
    have Gt_10 := Lib.hid gt_10
    replace yt_10 := Lib.hid yt_10
    clear ot_10 gt_10
    have HBwt_10 := Lib.hid (HBwt_8.out.grown Gt_10.out HBwt_8.out.size (fun q hq => (Ot_8.out.lt q hq).1))
    have Dt_10_town_0 : Hid (Apart At_10 _) := Lib.hid (Go.Proofs.YtgimcnpkngpmiaaGreatDoor.GoK.apart_from Dt_8_town_0.out (fun a_ ha_ => by cases ha_; exact cell_lt ktown_0_0) yt_10.out)
    replace ktown_0_0 := cell_other ktown_0_0 Gt_10.out Dt_8_town_0.out
    clear Ot_8 Gt_10 yt_10
    obtain rfl := ret_hid H
    go_wp2_with fail
    go_ret
    exact ⟨At_10, ct_10, rfl, Pt_10.out, HBwt_10.out⟩
end Go.Proofs.YtgimcnpkngpmiaaGreatDoor.GiMarksOf

/-
  The contract of a library function that this program calls (slices.SortFunc at records), laid at its own numbers by the shelf of the guide. No condition of its own: it states its premises.
-/
namespace Go.Proofs
open Go.Shelf
def Tryz.sortPm_ren : Go.Shelf.Ren := ⟨fun | 6 => 40 | 15 => 63 | 14 => 68 | 28 => 83 | 29 => 84 | 20 => 85 | 21 => 86 | 22 => 87 | 23 => 88 | 24 => 89 | 25 => 90 | 26 => 91 | 27 => 92 | 46 => 102 | 47 => 97 | 48 => 98 | 49 => 103 | 50 => 104 | 57 => 113 | n => n, fun | 22 => 24 | 24 => 34 | 25 => 65 | 3 => 3 | 39 => 78 | 0 => 0 | 53 => 93 | 55 => 47 | 4 => 4 | 46 => 87 | 45 => 86 | 50 => 38 | 5 => 5 | 9 => 9 | 66 => 103 | 70 => 107 | 76 => 117 | 77 => 118 | n => n, fun | n => n⟩
theorem Tryz.sortPm : Go.Proofs.SlLaysF0.n6 Tryz.prog Tryz.sortPm_ren := {
  mixed := by kernel_rfl
  f6 := ⟨Tryz.f40.name, by decide, Tryz.func40.trans (congrArg some (by kernel_rfl))⟩
  f14 := ⟨Tryz.f68.name, by decide, Tryz.func68.trans (congrArg some (by kernel_rfl))⟩
  f15 := Tryz.func63.trans (congrArg some (by kernel_rfl))
  f20 := ⟨Tryz.f85.name, by decide, Tryz.func85.trans (congrArg some (by kernel_rfl))⟩
  f21 := ⟨Tryz.f86.name, by decide, Tryz.func86.trans (congrArg some (by kernel_rfl))⟩
  f22 := ⟨Tryz.f87.name, by decide, Tryz.func87.trans (congrArg some (by kernel_rfl))⟩
  f23 := ⟨Tryz.f88.name, by decide, Tryz.func88.trans (congrArg some (by kernel_rfl))⟩
  f24 := ⟨Tryz.f89.name, by decide, Tryz.func89.trans (congrArg some (by kernel_rfl))⟩
  f25 := ⟨Tryz.f90.name, by decide, Tryz.func90.trans (congrArg some (by kernel_rfl))⟩
  f26 := ⟨Tryz.f91.name, by decide, Tryz.func91.trans (congrArg some (by kernel_rfl))⟩
  f27 := ⟨Tryz.f92.name, by decide, Tryz.func92.trans (congrArg some (by kernel_rfl))⟩
  f28 := Tryz.func83.trans (congrArg some (by kernel_rfl))
  f29 := Tryz.func84.trans (congrArg some (by kernel_rfl))
  f46 := ⟨Tryz.f102.name, by decide, Tryz.func102.trans (congrArg some (by kernel_rfl))⟩
  f47 := Tryz.func97.trans (congrArg some (by kernel_rfl))
  f48 := Tryz.func98.trans (congrArg some (by kernel_rfl))
  f49 := ⟨Tryz.f103.name, by decide, Tryz.func103.trans (congrArg some (by kernel_rfl))⟩
  f50 := ⟨Tryz.f104.name, by decide, Tryz.func104.trans (congrArg some (by kernel_rfl))⟩
  f57 := ⟨Tryz.f113.name, by decide, Tryz.func113.trans (congrArg some (by kernel_rfl))⟩
  t0 := Tryz.underlying0
  a0 := Tryz.isAgg0
  z0 := Tryz.sizeOf0
  v0 := Tryz.zeroValue0
  t3 := Tryz.underlying3
  a3 := Tryz.isAgg3
  z3 := Tryz.sizeOf3
  v3 := Tryz.zeroValue3
  t4 := Tryz.underlying4
  a4 := Tryz.isAgg4
  z4 := Tryz.sizeOf4
  v4 := Tryz.zeroValue4
  t5 := Tryz.underlying5
  a5 := Tryz.isAgg5
  z5 := Tryz.sizeOf5
  v5 := Tryz.zeroValue5
  t9 := Tryz.underlying9
  a9 := Tryz.isAgg9
  z9 := Tryz.sizeOf9
  v9 := Tryz.zeroValue9
  t22 := Tryz.underlying24
  a22 := Tryz.isAgg24
  z22 := Tryz.sizeOf24
  v22 := Tryz.zeroValue24
  t25 := Tryz.underlying65
  a25 := Tryz.isAgg65
  z25 := Tryz.sizeOf65
  v25 := Tryz.zeroValue65
  t39 := Tryz.underlying78
  a39 := Tryz.isAgg78
  z39 := Tryz.sizeOf78
  v39 := Tryz.zeroValue78
  t45 := Tryz.underlying86
  a45 := Tryz.isAgg86
  z45 := Tryz.sizeOf86
  v45 := Tryz.zeroValue86
  t46 := Tryz.underlying87
  a46 := Tryz.isAgg87
  z46 := Tryz.sizeOf87
  v46 := Tryz.zeroValue87
  t50 := Tryz.underlying38
  a50 := Tryz.isAgg38
  z50 := Tryz.sizeOf38
  v50 := Tryz.zeroValue38
  t53 := Tryz.underlying93
  a53 := Tryz.isAgg93
  z53 := Tryz.sizeOf93
  v53 := Tryz.zeroValue93
  t55 := Tryz.underlying47
  a55 := Tryz.isAgg47
  z55 := Tryz.sizeOf47
  v55 := Tryz.zeroValue47
  t66 := Tryz.underlying103
  a66 := Tryz.isAgg103
  z66 := Tryz.sizeOf103
  v66 := Tryz.zeroValue103
  t70 := Tryz.underlying107
  a70 := Tryz.isAgg107
  z70 := Tryz.sizeOf107
  v70 := Tryz.zeroValue107
  t76 := Tryz.underlying117
  a76 := Tryz.isAgg117
  z76 := Tryz.sizeOf117
  v76 := Tryz.zeroValue117
  t77 := Tryz.underlying118
  a77 := Tryz.isAgg118
  z77 := Tryz.sizeOf118
  v77 := Tryz.zeroValue118 }
end Go.Proofs

