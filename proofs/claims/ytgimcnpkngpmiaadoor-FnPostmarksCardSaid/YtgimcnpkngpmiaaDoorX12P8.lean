/- Texts on which the proofs of several laws stand, one behind the other (8 of 14). No condition of their own. -/
import Derived.Test.YtgimcnpkngpmiaaDoorChecked
import Derived.Test.YtgimcnpkngpmiaaDoorX12P1
import Derived.Test.YtgimcnpkngpmiaaDoorX12P2
import Derived.Test.YtgimcnpkngpmiaaDoorX12P7
import Derived.WalkKit
import Derived.WalkSpells
import Derived.WalkLawsBesides
import Derived.BigQuiet
import Derived.OwnWalk
import Derived.Deep.LoopGhost
import Derived.Deep.QuietTactic
import Derived.IntWalk
import Derived.Lib.QuietBelow
import Derived.Test.YtgimcnpkngpmiaaDoorX12P3
import Derived.Test.YtgimcnpkngpmiaaDoorX12P5
import Derived.Test.YtgimcnpkngpmiaaDoorX12P6
import Derived.Deep.AppendLies
/- loop.example/g01062/impl.ReadMarks$1 as a plain function, and the contract of the program's: where the plain one has an answer, the program has it. Conditions: slices read as lists. -/
namespace Go.Proofs.YtgimcnpkngpmiaaDoor.GiReadMarks1
set_option linter.unusedVariables false
set_option linter.unusedSimpArgs false
open Go.RowKit
open Go.Proofs.YtgimcnpkngpmiaaDoor.Rowed Go.Proofs.YtgimcnpkngpmiaaDoor.Turn Go.Proofs.YtgimcnpkngpmiaaDoor.Aid Go.Proofs.YtgimcnpkngpmiaaDoor.GoP Go.Proofs.YtgimcnpkngpmiaaDoor.GoM

def P (p : Go.Proofs.YtgimcnpkngpmiaaDoor.PPostmark.Postmark) (hq0 : Int) (hq1 : ByteArray) : Option (Bool) :=
  unPostmark p fun (p_id : Int) (p_town : ByteArray) (p_kind_ : Int) (p_first : Int) (p_last : Int) (p_lost : ByteArray) =>
  Option.bind (Go.Proofs.YtgimcnpkngpmiaaDoor.GiWasUsedOn.P (Go.Proofs.YtgimcnpkngpmiaaDoor.PPostmark.Postmark.mk p_id p_town p_kind_ p_first p_last p_lost) hq0) fun (t_4 : Bool) =>
  joinK (fun (t_10 : Bool) =>
  some t_10) fun jt_10 => iteK t_4 (Option.bind (Go.Proofs.YtgimcnpkngpmiaaDoor.GiLoShownBy.P (Go.Proofs.YtgimcnpkngpmiaaDoor.PPostmark.Postmark.mk p_id p_town p_kind_ p_first p_last p_lost)) fun (t_8 : ByteArray) =>
  Option.bind (Go.Proofs.YtgimcnpkngpmiaaDoor.GiReadsAs.P hq1 t_8) fun (t_9 : Bool) =>
  appK jt_10 t_9) (appK jt_10 false)

set_option maxRecDepth 100000 in
set_option maxHeartbeats 2000000 in
theorem C (p : Go.Proofs.YtgimcnpkngpmiaaDoor.PPostmark.Postmark) (hq0 : Int) (hq1 : ByteArray)  (gq0 : Nat) (gq1 : Nat) (w : World)  (Fq0h : Hid (w.cell? ⟨gq0, 0, none⟩ = some (.int .i64 hq0))) (Fq1h : Hid (w.cell? ⟨gq1, 0, none⟩ = some (.string hq1))) {r : Bool} (H : Hid (P p hq0 hq1 = some r)) :
    Calls Tryd.prog 50 #[p.val, .pointer (some ⟨gq0, 0, none⟩), .pointer (some ⟨gq1, 0, none⟩)] w (Gives (.bool r) w) := by
  have HB := Lib.hid (Below.refl w.heap.size w)
  unfold P at H
  obtain ⟨p_id, p_town, p_kind_, p_first, p_last, p_lost⟩ := p
  replace H := unPostmark_hid H
  unfold Go.Proofs.YtgimcnpkngpmiaaDoor.PPostmark.Postmark.val
  have Fq0 := Fq0h.out
  have Fq1 := Fq1h.out
  go_enter Tryd.func50, Tryd.ntmps50
  obtain ⟨w_p_0, hw_p_0⟩ : ∃ x, w.alloc (.cells #[.int .i64 p_id, .string p_town, .int .i64 p_kind_, .int .i64 p_first, .int .i64 p_last, .string p_lost] 39) = x := ⟨_, rfl⟩
  have bw_p_0 : Below w.heap.size w w_p_0 := by rw [← hw_p_0]; exact (Below.refl _ _).alloc (Nat.le_refl _) _
  have HBw_p_0 := Lib.hid (Below.step HB.out bw_p_0)
  have Fq0__438 := cell_below bw_p_0 Fq0
  have Fq1__439 := cell_below bw_p_0 Fq1
  clear bw_p_0
  have kp_0_0 : w_p_0.cell? ⟨w.heap.size, 0, none⟩ = some (.int .i64 p_id) := by rw [← hw_p_0]; exact box_new _ _ _ 0 _ rfl
  have kp_0_1 : w_p_0.cell? ⟨w.heap.size, 1, none⟩ = some (.string p_town) := by rw [← hw_p_0]; exact box_new _ _ _ 1 _ rfl
  have kp_0_2 : w_p_0.cell? ⟨w.heap.size, 2, none⟩ = some (.int .i64 p_kind_) := by rw [← hw_p_0]; exact box_new _ _ _ 2 _ rfl
  have kp_0_3 : w_p_0.cell? ⟨w.heap.size, 3, none⟩ = some (.int .i64 p_first) := by rw [← hw_p_0]; exact box_new _ _ _ 3 _ rfl
  have kp_0_4 : w_p_0.cell? ⟨w.heap.size, 4, none⟩ = some (.int .i64 p_last) := by rw [← hw_p_0]; exact box_new _ _ _ 4 _ rfl
  have kp_0_5 : w_p_0.cell? ⟨w.heap.size, 5, none⟩ = some (.string p_lost) := by rw [← hw_p_0]; exact box_new _ _ _ 5 _ rfl
  go_wp2_with fail
  clear Fq0 Fq1
  have HFq0__438 := Lib.hid Fq0__438
  replace Fq0__438 := cell_regrown Fq0__438
  have HFq1__439 := Lib.hid Fq1__439
  replace Fq1__439 := cell_regrown Fq1__439
  have Hkp_0_0 := Lib.hid kp_0_0
  replace kp_0_0 := cell_regrown kp_0_0
  have Hkp_0_1 := Lib.hid kp_0_1
  replace kp_0_1 := cell_regrown kp_0_1
  have Hkp_0_2 := Lib.hid kp_0_2
  replace kp_0_2 := cell_regrown kp_0_2
  have Hkp_0_3 := Lib.hid kp_0_3
  replace kp_0_3 := cell_regrown kp_0_3
  have Hkp_0_4 := Lib.hid kp_0_4
  replace kp_0_4 := cell_regrown kp_0_4
  have Hkp_0_5 := Lib.hid kp_0_5
  replace kp_0_5 := cell_regrown kp_0_5
  replace H := bind_hid H
  obtain ⟨t_4, qt_4, H⟩ := H
  have nt_4 : ∀ d os, Calls Tryd.prog 51 #[.agg #[.int .i64 p_id, .string p_town, .int .i64 p_kind_, .int .i64 p_first, .int .i64 p_last, .string p_lost], .int .i64 hq0] (Go.Sort.grow (redrawn w_p_0 d) os) fun e w'' => e = .returned (.bool t_4) ∧ ∃ p : Regrown, w'' = Go.Sort.grow (redrawn w_p_0 p.d) p.os := fun d os => Calls.regrown_of (Go.Proofs.YtgimcnpkngpmiaaDoor.GiWasUsedOn.C ((Go.Proofs.YtgimcnpkngpmiaaDoor.PPostmark.Postmark.mk p_id p_town p_kind_ p_first p_last p_lost)) (hq0)  _    qt_4)
  replace H := join_hid H
  cases t_4 with
  | false =>
    replace H := ite_f H
    replace H := app_hid H
    refine wp_region_quiet_below (by kernel_rfl) (by kernel_rfl) ?_
    repeat (go_big_quiet_step (first | (go_at_call 51; exact nt_4 _ _)))
    refine wpQuiet_nil ?_
    intro Y1 hY1
    replace hY1 := below_class hY1
    clear nt_4
    replace Fq0__438 := HFq0__438.out
    clear HFq0__438
    replace Fq1__439 := HFq1__439.out
    clear HFq1__439
    replace kp_0_0 := Hkp_0_0.out
    clear Hkp_0_0
    replace kp_0_1 := Hkp_0_1.out
    clear Hkp_0_1
    replace kp_0_2 := Hkp_0_2.out
    clear Hkp_0_2
    replace kp_0_3 := Hkp_0_3.out
    clear Hkp_0_3
    replace kp_0_4 := Hkp_0_4.out
    clear Hkp_0_4
    replace kp_0_5 := Hkp_0_5.out
    clear Hkp_0_5
    have HBY1 := Lib.hid (Below.step HBw_p_0.out hY1)
    replace Fq0__438 := cell_below hY1 Fq0__438
    replace Fq1__439 := cell_below hY1 Fq1__439
    replace kp_0_0 := cell_below hY1 kp_0_0
    replace kp_0_1 := cell_below hY1 kp_0_1
    replace kp_0_2 := cell_below hY1 kp_0_2
    replace kp_0_3 := cell_below hY1 kp_0_3
    replace kp_0_4 := cell_below hY1 kp_0_4
    replace kp_0_5 := cell_below hY1 kp_0_5
    clear hY1
    obtain rfl := ret_hid H
    go_wp2_with fail
    go_ret
    exact ⟨rfl, HBY1.out⟩
  | true =>
    replace H := ite_t H
    replace H := bind_hid H
    obtain ⟨t_8, qt_8, H⟩ := H
    have nt_8 : ∀ d os, Calls Tryd.prog 53 #[.agg #[.int .i64 p_id, .string p_town, .int .i64 p_kind_, .int .i64 p_first, .int .i64 p_last, .string p_lost]] (Go.Sort.grow (redrawn w_p_0 d) os) fun e w'' => e = .returned (.string t_8) ∧ ∃ p : Regrown, w'' = Go.Sort.grow (redrawn w_p_0 p.d) p.os := fun d os => Calls.regrown_of (Go.Proofs.YtgimcnpkngpmiaaDoor.GiLoShownBy.C ((Go.Proofs.YtgimcnpkngpmiaaDoor.PPostmark.Postmark.mk p_id p_town p_kind_ p_first p_last p_lost))  _    qt_8)
    replace H := bind_hid H
    obtain ⟨t_9, qt_9, H⟩ := H
    have nt_9 : ∀ d os, Calls Tryd.prog 52 #[.string hq1, .string t_8] (Go.Sort.grow (redrawn w_p_0 d) os) fun e w'' => e = .returned (.bool t_9) ∧ ∃ p : Regrown, w'' = Go.Sort.grow (redrawn w_p_0 p.d) p.os := fun d os => Calls.regrown_of (Go.Proofs.YtgimcnpkngpmiaaDoor.GiReadsAs.C (hq1) (t_8)  _    qt_9)
    replace H := app_hid H
    refine wp_region_quiet_below (by kernel_rfl) (by kernel_rfl) ?_
    repeat (go_big_quiet_step (first | (go_at_call 51; exact nt_4 _ _) | (go_at_call 53; exact nt_8 _ _) | (go_at_call 52; exact nt_9 _ _)))
    refine wpQuiet_nil ?_
    intro Y1 hY1
    replace hY1 := below_class hY1
    clear nt_4 nt_8 nt_9
    replace Fq0__438 := HFq0__438.out
    clear HFq0__438
    replace Fq1__439 := HFq1__439.out
    clear HFq1__439
    replace kp_0_0 := Hkp_0_0.out
    clear Hkp_0_0
    replace kp_0_1 := Hkp_0_1.out
    clear Hkp_0_1
    replace kp_0_2 := Hkp_0_2.out
    clear Hkp_0_2
    replace kp_0_3 := Hkp_0_3.out
    clear Hkp_0_3
    replace kp_0_4 := Hkp_0_4.out
    clear Hkp_0_4
    replace kp_0_5 := Hkp_0_5.out
    clear Hkp_0_5
    have HBY1 := Lib.hid (Below.step HBw_p_0.out hY1)
    replace Fq0__438 := cell_below hY1 Fq0__438
    replace Fq1__439 := cell_below hY1 Fq1__439
    replace kp_0_0 := cell_below hY1 kp_0_0
    replace kp_0_1 := cell_below hY1 kp_0_1
    replace kp_0_2 := cell_below hY1 kp_0_2
    replace kp_0_3 := cell_below hY1 kp_0_3
    replace kp_0_4 := cell_below hY1 kp_0_4
    replace kp_0_5 := cell_below hY1 kp_0_5
    clear hY1
    obtain rfl := ret_hid H
    go_wp2_with fail
    go_ret
    exact ⟨rfl, HBY1.out⟩
end Go.Proofs.YtgimcnpkngpmiaaDoor.GiReadMarks1

/- loop.example/g01062/impl.keysWhere[loop.example/g01062/impl.Postmark,int] as a plain function, and the contract of the program's: where the plain one has an answer, the program has it. Conditions: slices read as lists. -/
namespace Go.Proofs.YtgimcnpkngpmiaaDoor.GiKeysWherePostmarkIntiIdOfPostmarkiReadMarks1
set_option linter.unusedVariables false
set_option linter.unusedSimpArgs false
open Go.RowKit
open Go.Proofs.YtgimcnpkngpmiaaDoor.Rowed Go.Proofs.YtgimcnpkngpmiaaDoor.Turn Go.Proofs.YtgimcnpkngpmiaaDoor.Aid Go.Proofs.YtgimcnpkngpmiaaDoor.GoP Go.Proofs.YtgimcnpkngpmiaaDoor.GoM

def l0 (list : (List Go.Proofs.YtgimcnpkngpmiaaDoor.PPostmark.Postmark)) (hf2_0 : Int) (hf2_1 : ByteArray) (k0 : Nat) (s : (List Int)) (nx0 bk0 : (List Int) → Option ((List Int))) : Option ((List Int)) :=
  letK s fun keys_7l0 =>
  Option.bind (idx list (k0 : Int)) fun (yt_7 : Go.Proofs.YtgimcnpkngpmiaaDoor.PPostmark.Postmark) =>
  unPostmark yt_7 fun (t_7_id : Int) (t_7_town : ByteArray) (t_7_kind_ : Int) (t_7_first : Int) (t_7_last : Int) (t_7_lost : ByteArray) =>
  Option.bind (Go.Proofs.YtgimcnpkngpmiaaDoor.GiReadMarks1.P (Go.Proofs.YtgimcnpkngpmiaaDoor.PPostmark.Postmark.mk t_7_id t_7_town t_7_kind_ t_7_first t_7_last t_7_lost) hf2_0 hf2_1) fun (t_13 : Bool) =>
  iteK t_13
  (Option.bind (Go.Proofs.YtgimcnpkngpmiaaDoor.GiIdOfPostmark.P (Go.Proofs.YtgimcnpkngpmiaaDoor.PPostmark.Postmark.mk t_7_id t_7_town t_7_kind_ t_7_first t_7_last t_7_lost)) fun (t_17 : Int) =>
  guardK (keys_7l0.length ≤ 1099511627776) <|
  letK (keys_7l0 ++ [t_17]) fun (t_19 : (List Int)) =>
  appK nx0 (t_19))
  (appK nx0 (keys_7l0))

def e0  (s : (List Int)) : Option ((List Int)) :=
  letK s fun keys_7l0 =>
  some keys_7l0

def P (list : (List Go.Proofs.YtgimcnpkngpmiaaDoor.PPostmark.Postmark)) (hf2_0 : Int) (hf2_1 : ByteArray) : Option ((List Int)) :=
  cntK (l0 list hf2_0 hf2_1) (list.length) 0 (([] : List Int)) (e0 )

set_option maxRecDepth 100000 in
set_option maxHeartbeats 2000000 in
theorem C (list : (List Go.Proofs.YtgimcnpkngpmiaaDoor.PPostmark.Postmark)) (hf2_0 : Int) (hf2_1 : ByteArray) (A0 : Option Addr) (c0 : Nat) (gf2_0 : Nat) (gf2_1 : Nat) (w : World) (M0 : Hid (Cells w 6 A0 list.length (Go.Proofs.YtgimcnpkngpmiaaDoor.PPostmark.flat list))) (N0 : Hid (list.length ≤ 9223372036854775807)) (Ff2_0h : Hid (w.cell? ⟨gf2_0, 0, none⟩ = some (.int .i64 hf2_0))) (Ff2_1h : Hid (w.cell? ⟨gf2_1, 0, none⟩ = some (.string hf2_1))) {r : (List Int)} (H : Hid (P list hf2_0 hf2_1 = some r)) :
    Calls Tryd.prog 48 #[.slice A0 list.length c0, .func (.func 49) #[] #[], .func (.func 50) #[] #[.pointer (some ⟨gf2_0, 0, none⟩), .pointer (some ⟨gf2_1, 0, none⟩)]] w (fun e w' => ∃ A_r c_r, e = .returned (.slice A_r r.length c_r) ∧ w'.ownsRow w.heap.size 3 1 (.slice A_r r.length c_r) r.length (Go.Proofs.YtgimcnpkngpmiaaDoor.HelpInt.iv r) ∧ Below w.heap.size w w') := by
  have HB := Lib.hid (Below.refl w.heap.size w)
  unfold P at H
  have N0o := N0.out
  have Ff2_0 := Ff2_0h.out
  have Ff2_1 := Ff2_1h.out
  obtain ⟨i0_3, hi_3, hz0_3, hz1_3, hz2_3⟩ := Aid.info_parts (P := Tryd.prog) (T := 3) (z := .int .i64 0) (s := 1) (b := 8) (by kernel_rfl)
  go_enter Tryd.func48, Tryd.ntmps48
  obtain ⟨w_t_1, hw_t_1⟩ : ∃ x, w.alloc (.cells #[] 3) = x := ⟨_, rfl⟩
  have bw_t_1 : Below w.heap.size w w_t_1 := by rw [← hw_t_1]; exact (Below.refl _ _).alloc (Nat.le_refl _) _
  have Ot_1 : Hid (w_t_1.ownsRow w.heap.size 3 1 (.slice (some ⟨w.heap.size, 0, none⟩) 0 0) 0 []) := Lib.hid (by rw [← hw_t_1]; exact own_empty HB.out.size)
  have HBw_t_1 := Lib.hid (Below.step HB.out bw_t_1)
  have Ff2_0__440 := cell_below bw_t_1 Ff2_0
  have Ff2_1__441 := cell_below bw_t_1 Ff2_1
  clear bw_t_1
  go_wp2_with fail
  clear Ff2_0 Ff2_1
  go_loopg [13, 7] (list.length) (fun m_ v13_ v7_ wr => ∃ (k0 : Nat) (keys_7l0 : (List Int)) (Akeys_7l0 : Option Addr) (ckeys_7l0 : Nat), k0 + m_ = list.length ∧ v13_ = .int .i64 (k0 : Int) ∧ v7_ = .slice Akeys_7l0 keys_7l0.length ckeys_7l0 ∧ Hid (cntK (l0 list hf2_0 hf2_1) m_ k0 (keys_7l0) (e0 ) = some r) ∧ Hid (Below w.heap.size w wr) ∧ wr.cell? ⟨gf2_0, 0, none⟩ = some (.int .i64 hf2_0) ∧ wr.cell? ⟨gf2_1, 0, none⟩ = some (.string hf2_1) ∧ Hid (wr.ownsRow w.heap.size 3 1 (.slice Akeys_7l0 keys_7l0.length ckeys_7l0) keys_7l0.length (Go.Proofs.YtgimcnpkngpmiaaDoor.HelpInt.iv keys_7l0)))
  case atStart => exact ⟨0, _, _, _, by omega, rfl, rfl, H, HBw_t_1, Ff2_0__440, Ff2_1__441, Ot_1⟩
  case round =>
    obtain ⟨k0, keys_7l0, Akeys_7l0, ckeys_7l0, hkm0, rfl, rfl, H, HBwr0, Ff2_0__440, Ff2_1__441, Okeys_7l0⟩ := hrel
    rename World => wr0
    cases gk with
    | zero =>
      obtain rfl : k0 = list.length := by omega
      have hc0 : decide (((list.length : Nat) : Int) < ((list.length : Nat) : Int)) = false := by simp
      replace H := cnt_zero H
      unfold e0 at H
      replace H := let_hid H
      obtain ⟨_, rfl, H⟩ := H
      obtain rfl := ret_hid H
      go_wp2_with fail
      go_ret
      exact ⟨Akeys_7l0, ckeys_7l0, rfl, Okeys_7l0.out, HBwr0.out⟩
    | succ m0 =>
      have hlt0 : k0 < list.length := by omega
      have hc0 : decide ((k0 : Int) < ((list.length : Nat) : Int)) = true := by simp; omega
      replace H := cnt_succ H
      unfold l0 at H
      replace H := let_hid H
      obtain ⟨_, rfl, H⟩ := H
      replace H := idx_hid H
      obtain ⟨nt_7, yt_7, et_7, lt_7, gt_7, H⟩ := H
      obtain rfl : k0 = nt_7 := by omega
      clear et_7
      obtain ⟨t_7_id, t_7_town, t_7_kind_, t_7_first, t_7_last, t_7_lost⟩ := yt_7
      replace H := unPostmark_hid H
      obtain ⟨ab_t_7, ao_t_7, zt_7, At_7, z_t_7, ct_7_0, ct_7_1, ct_7_2, ct_7_3, ct_7_4, ct_7_5⟩ := Go.Proofs.YtgimcnpkngpmiaaDoor.OPostmark.at_ M0.out lt_7
      obtain rfl := Option.some.inj (gt_7.out.symm.trans z_t_7)
      subst At_7
      have ltt_7 := cell_lt ct_7_0
      replace ct_7_0 := cell_below HBwr0.out ct_7_0
      replace ct_7_1 := cell_below HBwr0.out ct_7_1
      replace ct_7_2 := cell_below HBwr0.out ct_7_2
      replace ct_7_3 := cell_below HBwr0.out ct_7_3
      replace ct_7_4 := cell_below HBwr0.out ct_7_4
      replace ct_7_5 := cell_below HBwr0.out ct_7_5
      clear z_t_7
      have b0t_7 : (0 : Int) ≤ (k0 : Int) := by omega
      have b1t_7 : (k0 : Int) < ((list.length : Nat) : Int) := by omega
      have b2t_7 : ((k0 : Int)).toNat = k0 := by omega
      obtain ⟨w_e_9, hw_e_9⟩ : ∃ x, wr0.alloc (.cells #[.int .i64 t_7_id, .string t_7_town, .int .i64 t_7_kind_, .int .i64 t_7_first, .int .i64 t_7_last, .string t_7_lost] 39) = x := ⟨_, rfl⟩
      have bw_e_9 : Below wr0.heap.size wr0 w_e_9 := by rw [← hw_e_9]; exact (Below.refl _ _).alloc (Nat.le_refl _) _
      have De_9_keys_7l0 := Lib.hid (apart_fresh Okeys_7l0.out)
      have HBw_e_9 := Lib.hid (Below.step HBwr0.out bw_e_9)
      have Ff2_0__442 := cell_below bw_e_9 Ff2_0__440
      have Ff2_1__443 := cell_below bw_e_9 Ff2_1__441
      have ct_7_0__444 := cell_below bw_e_9 ct_7_0
      have ct_7_1__445 := cell_below bw_e_9 ct_7_1
      have ct_7_2__446 := cell_below bw_e_9 ct_7_2
      have ct_7_3__447 := cell_below bw_e_9 ct_7_3
      have ct_7_4__448 := cell_below bw_e_9 ct_7_4
      have ct_7_5__449 := cell_below bw_e_9 ct_7_5
      replace Okeys_7l0 := Lib.hid (own_below Okeys_7l0.out bw_e_9)
      clear bw_e_9
      have ke_9_0 : w_e_9.cell? ⟨wr0.heap.size, 0, none⟩ = some (.int .i64 t_7_id) := by rw [← hw_e_9]; exact box_new _ _ _ 0 _ rfl
      have ke_9_1 : w_e_9.cell? ⟨wr0.heap.size, 1, none⟩ = some (.string t_7_town) := by rw [← hw_e_9]; exact box_new _ _ _ 1 _ rfl
      have ke_9_2 : w_e_9.cell? ⟨wr0.heap.size, 2, none⟩ = some (.int .i64 t_7_kind_) := by rw [← hw_e_9]; exact box_new _ _ _ 2 _ rfl
      have ke_9_3 : w_e_9.cell? ⟨wr0.heap.size, 3, none⟩ = some (.int .i64 t_7_first) := by rw [← hw_e_9]; exact box_new _ _ _ 3 _ rfl
      have ke_9_4 : w_e_9.cell? ⟨wr0.heap.size, 4, none⟩ = some (.int .i64 t_7_last) := by rw [← hw_e_9]; exact box_new _ _ _ 4 _ rfl
      have ke_9_5 : w_e_9.cell? ⟨wr0.heap.size, 5, none⟩ = some (.string t_7_lost) := by rw [← hw_e_9]; exact box_new _ _ _ 5 _ rfl
      replace H := bind_hid H
      obtain ⟨t_13, qt_13, H⟩ := H
      go_wp2_with fail
      clear Ff2_0__440 Ff2_1__441 ct_7_0 ct_7_1 ct_7_2 ct_7_3 ct_7_4 ct_7_5
      go_at_call 50
      refine (Go.Proofs.YtgimcnpkngpmiaaDoor.GiReadMarks1.C ((Go.Proofs.YtgimcnpkngpmiaaDoor.PPostmark.Postmark.mk t_7_id t_7_town t_7_kind_ t_7_first t_7_last t_7_lost)) (hf2_0) (hf2_1) (gf2_0) (gf2_1) _   (Lib.hid Ff2_0__442) (Lib.hid Ff2_1__443) qt_13).mono ?_
      rintro e_t_13 wt_13 ⟨rfl, bt_13⟩
      have HBwt_13 := Lib.hid (Below.step HBw_e_9.out bt_13)
      replace Ff2_0__442 := cell_below bt_13 Ff2_0__442
      replace Ff2_1__443 := cell_below bt_13 Ff2_1__443
      replace ct_7_0__444 := cell_below bt_13 ct_7_0__444
      replace ct_7_1__445 := cell_below bt_13 ct_7_1__445
      replace ct_7_2__446 := cell_below bt_13 ct_7_2__446
      replace ct_7_3__447 := cell_below bt_13 ct_7_3__447
      replace ct_7_4__448 := cell_below bt_13 ct_7_4__448
      replace ct_7_5__449 := cell_below bt_13 ct_7_5__449
      replace ke_9_0 := cell_below bt_13 ke_9_0
      replace ke_9_1 := cell_below bt_13 ke_9_1
      replace ke_9_2 := cell_below bt_13 ke_9_2
      replace ke_9_3 := cell_below bt_13 ke_9_3
      replace ke_9_4 := cell_below bt_13 ke_9_4
      replace ke_9_5 := cell_below bt_13 ke_9_5
      replace Okeys_7l0 := Lib.hid (own_below Okeys_7l0.out bt_13)
      clear bt_13
      cases t_13 with
      | false =>
        replace H := ite_f H
        replace H := app_hid H
        go_wp2_with fail
        go_roundg m0
        case measure => omega
        case rel => exact ⟨k0 + 1, _, _, _, by omega, by go_num, rfl, H, HBwt_13, Ff2_0__442, Ff2_1__443, Okeys_7l0⟩
      | true =>
        replace H := ite_t H
        replace H := bind_hid H
        obtain ⟨t_17, qt_17, H⟩ := H
        go_wp2_with fail
        go_at_call 49
        refine (Go.Proofs.YtgimcnpkngpmiaaDoor.GiIdOfPostmark.C ((Go.Proofs.YtgimcnpkngpmiaaDoor.PPostmark.Postmark.mk t_7_id t_7_town t_7_kind_ t_7_first t_7_last t_7_lost))  _    qt_17).mono ?_
        rintro e_t_17 wt_17 ⟨rfl, bt_17⟩
        have HBwt_17 := Lib.hid (Below.step HBwt_13.out bt_17)
        replace Ff2_0__442 := cell_below bt_17 Ff2_0__442
        replace Ff2_1__443 := cell_below bt_17 Ff2_1__443
        replace ct_7_0__444 := cell_below bt_17 ct_7_0__444
        replace ct_7_1__445 := cell_below bt_17 ct_7_1__445
        replace ct_7_2__446 := cell_below bt_17 ct_7_2__446
        replace ct_7_3__447 := cell_below bt_17 ct_7_3__447
        replace ct_7_4__448 := cell_below bt_17 ct_7_4__448
        replace ct_7_5__449 := cell_below bt_17 ct_7_5__449
        replace ke_9_0 := cell_below bt_17 ke_9_0
        replace ke_9_1 := cell_below bt_17 ke_9_1
        replace ke_9_2 := cell_below bt_17 ke_9_2
        replace ke_9_3 := cell_below bt_17 ke_9_3
        replace ke_9_4 := cell_below bt_17 ke_9_4
        replace ke_9_5 := cell_below bt_17 ke_9_5
        replace Okeys_7l0 := Lib.hid (own_below Okeys_7l0.out bt_17)
        clear bt_17
        obtain ⟨w_t_18, hw_t_18⟩ : ∃ x, wt_17.alloc (.cells #[.int .i64 t_17] 3) = x := ⟨_, rfl⟩
        have bw_t_18 : Below wt_17.heap.size wt_17 w_t_18 := by rw [← hw_t_18]; exact (Below.refl _ _).alloc (Nat.le_refl _) _
        have HBw_t_18 := Lib.hid (Below.step HBwt_17.out bw_t_18)
        have Ff2_0__450 := cell_below bw_t_18 Ff2_0__442
        have Ff2_1__451 := cell_below bw_t_18 Ff2_1__443
        have ct_7_0__452 := cell_below bw_t_18 ct_7_0__444
        have ct_7_1__453 := cell_below bw_t_18 ct_7_1__445
        have ct_7_2__454 := cell_below bw_t_18 ct_7_2__446
        have ct_7_3__455 := cell_below bw_t_18 ct_7_3__447
        have ct_7_4__456 := cell_below bw_t_18 ct_7_4__448
        have ct_7_5__457 := cell_below bw_t_18 ct_7_5__449
        have ke_9_0__458 := cell_below bw_t_18 ke_9_0
        have ke_9_1__459 := cell_below bw_t_18 ke_9_1
        have ke_9_2__460 := cell_below bw_t_18 ke_9_2
        have ke_9_3__461 := cell_below bw_t_18 ke_9_3
        have ke_9_4__462 := cell_below bw_t_18 ke_9_4
        have ke_9_5__463 := cell_below bw_t_18 ke_9_5
        replace Okeys_7l0 := Lib.hid (own_below Okeys_7l0.out bw_t_18)
        clear bw_t_18
        replace H := guard_hid H
        obtain ⟨hlt_19, H⟩ := H
        replace H := let_hid H
        obtain ⟨t_19, ht_19, H⟩ := H
        have hht_19 := Lib.hid ht_19
        clear ht_19
        have hst_19 := HBw_t_18.out.size
        go_wp2_with (at_builtin; refine wpList_append_own_at _ rfl _ _ 24 rfl w.heap.size 3 i0_3 (.int .i64 0) 1 8 Tryd.underlying24 hi_3 hz0_3 hz1_3 hz2_3 rfl (by decide) _ _ _ rfl Okeys_7l0.out ⟨wt_17.heap.size, 0, none⟩ 1 1 [.int .i64 t_17] rfl rfl (news_new hw_t_18) (one_cells rfl) (by unfold maxLen; omega) (by omega) hst_19 ?_; intro vt_19 wt_19 ot_19 gt_19 zt_19 yt_19; clear zt_19; obtain ⟨qt_19, ct_19, rfl, pt_19⟩ := own_push hht_19.out (Go.Proofs.YtgimcnpkngpmiaaDoor.HelpInt.iv_snoc _ _) rfl ot_19; have Pt_19 := Lib.hid pt_19; have Yt_19 := Lib.hid yt_19; have Gt_19 := Lib.hid gt_19; clear ot_19 gt_19 pt_19 yt_19; refine stop_in ?_)
        refine stop_out ?_
        have HBwt_19 := Lib.hid (HBw_t_18.out.grown Gt_19.out hst_19 (fun q hq => (Okeys_7l0.out.lt q hq).1))
        clear hst_19
        have Dt_19_e_9 : Hid (Apart (some ⟨qt_19, 0, none⟩) _) := Lib.hid (apart_app (Apart.symm De_9_keys_7l0.out) (fun a_ ha_ => by cases ha_; exact cell_lt ke_9_0__458) Yt_19.out)
        replace Ff2_0__450 := cell_below HBwt_19.out Ff2_0h.out
        replace Ff2_1__451 := cell_below HBwt_19.out Ff2_1h.out
        replace ct_7_0__452 := cell_other ct_7_0__452 Gt_19.out (apart_old Okeys_7l0.out ltt_7)
        replace ct_7_1__453 := cell_other ct_7_1__453 Gt_19.out (apart_old Okeys_7l0.out ltt_7)
        replace ct_7_2__454 := cell_other ct_7_2__454 Gt_19.out (apart_old Okeys_7l0.out ltt_7)
        replace ct_7_3__455 := cell_other ct_7_3__455 Gt_19.out (apart_old Okeys_7l0.out ltt_7)
        replace ct_7_4__456 := cell_other ct_7_4__456 Gt_19.out (apart_old Okeys_7l0.out ltt_7)
        replace ct_7_5__457 := cell_other ct_7_5__457 Gt_19.out (apart_old Okeys_7l0.out ltt_7)
        replace ke_9_0__458 := cell_other ke_9_0__458 Gt_19.out (Apart.symm De_9_keys_7l0.out)
        replace ke_9_1__459 := cell_other ke_9_1__459 Gt_19.out (Apart.symm De_9_keys_7l0.out)
        replace ke_9_2__460 := cell_other ke_9_2__460 Gt_19.out (Apart.symm De_9_keys_7l0.out)
        replace ke_9_3__461 := cell_other ke_9_3__461 Gt_19.out (Apart.symm De_9_keys_7l0.out)
        replace ke_9_4__462 := cell_other ke_9_4__462 Gt_19.out (Apart.symm De_9_keys_7l0.out)
        replace ke_9_5__463 := cell_other ke_9_5__463 Gt_19.out (Apart.symm De_9_keys_7l0.out)
        clear Ff2_0__442 Ff2_1__443 ct_7_0__444 ct_7_1__445 ct_7_2__446 ct_7_3__447 ct_7_4__448 ct_7_5__449 ke_9_0 ke_9_1 ke_9_2 ke_9_3 ke_9_4 ke_9_5
        clear Okeys_7l0 Yt_19 Gt_19
        replace H := app_hid H
        go_wp2_with fail
        go_roundg m0
        case measure => omega
        case rel => exact ⟨k0 + 1, _, _, _, by omega, by go_num, rfl, H, HBwt_19, Ff2_0__450, Ff2_1__451, Pt_19⟩
end Go.Proofs.YtgimcnpkngpmiaaDoor.GiKeysWherePostmarkIntiIdOfPostmarkiReadMarks1

/- loop.example/g01062/impl.ReadMarks as a plain function, and the contract of the program's: where the plain one has an answer, the program has it. Conditions: slices read as lists. -/
namespace Go.Proofs.YtgimcnpkngpmiaaDoor.GiReadMarks
set_option linter.unusedVariables false
set_option linter.unusedSimpArgs false
open Go.RowKit
open Go.Proofs.YtgimcnpkngpmiaaDoor.Rowed Go.Proofs.YtgimcnpkngpmiaaDoor.Turn Go.Proofs.YtgimcnpkngpmiaaDoor.Aid Go.Proofs.YtgimcnpkngpmiaaDoor.GoP Go.Proofs.YtgimcnpkngpmiaaDoor.GoM Go.Proofs.YtgimcnpkngpmiaaDoor.TabM

def P (list : (List Go.Proofs.YtgimcnpkngpmiaaDoor.PPostmark.Postmark)) (reading : ByteArray) (day : Int) : Option ((List Int) × Bool) :=
  Option.bind (Go.Proofs.YtgimcnpkngpmiaaDoor.GiArePostmarks.P list) fun (t_5 : Bool) =>
  letK (!t_5) fun (t_6 : Bool) =>
  joinK (fun (t_11 : Bool) =>
  joinK (fun (t_16 : Bool) =>
  iteK t_16
  (some (([] : List Int), false))
  (Option.bind (Go.Proofs.YtgimcnpkngpmiaaDoor.GiKeysWherePostmarkIntiIdOfPostmarkiReadMarks1.P list day reading) fun (t_22 : (List Int)) =>
  some (t_22, true))) fun jt_16 => iteK t_11 (appK jt_16 true) (Option.bind (Go.Proofs.YtgimcnpkngpmiaaDoor.GiIsDay.P day) fun (t_14 : Bool) =>
  letK (!t_14) fun (t_15 : Bool) =>
  appK jt_16 t_15)) fun jt_11 => iteK t_6 (appK jt_11 true) (Option.bind (Go.Proofs.YtgimcnpkngpmiaaDoor.GiIsReading.P reading) fun (t_9 : Bool) =>
  letK (!t_9) fun (t_10 : Bool) =>
  appK jt_11 t_10)

set_option maxRecDepth 100000 in
set_option maxHeartbeats 2000000 in
theorem C (list : (List Go.Proofs.YtgimcnpkngpmiaaDoor.PPostmark.Postmark)) (reading : ByteArray) (day : Int) (A0 : Option Addr) (c0 : Nat)  (w : World) (HT : Hid (Tab w)) (M0 : Hid (Cells w 6 A0 list.length (Go.Proofs.YtgimcnpkngpmiaaDoor.PPostmark.flat list))) (N0 : Hid (list.length ≤ 9223372036854775807))  {r0 : (List Int)} {r1 : Bool} (H : Hid (P list reading day = some (r0, r1))) :
    Calls Tryd.prog 9 #[.slice A0 list.length c0, .string reading, .int .i64 day] w (fun e w' => ∃ A_r0 c_r0, e = .returned (.tuple #[.slice A_r0 r0.length c_r0, .bool r1]) ∧ w'.ownsRow w.heap.size 3 1 (.slice A_r0 r0.length c_r0) r0.length (Go.Proofs.YtgimcnpkngpmiaaDoor.HelpInt.iv r0) ∧ Below w.heap.size w w') := by
  have HB := Lib.hid (Below.refl w.heap.size w)
  unfold P at H
  have N0o := N0.out
  go_enter Tryd.func9, Tryd.ntmps9
  obtain ⟨w_reading_0, hw_reading_0⟩ : ∃ x, w.alloc (.cells #[.string reading] 9) = x := ⟨_, rfl⟩
  have bw_reading_0 : Below w.heap.size w w_reading_0 := by rw [← hw_reading_0]; exact (Below.refl _ _).alloc (Nat.le_refl _) _
  have HBw_reading_0 := Lib.hid (Below.step HB.out bw_reading_0)
  clear bw_reading_0
  have kreading_0_0 : w_reading_0.cell? ⟨w.heap.size, 0, none⟩ = some (.string reading) := by rw [← hw_reading_0]; exact box_new _ _ _ 0 _ rfl
  obtain ⟨w_day_1, hw_day_1⟩ : ∃ x, w_reading_0.alloc (.cells #[.int .i64 day] 3) = x := ⟨_, rfl⟩
  have bw_day_1 : Below w_reading_0.heap.size w_reading_0 w_day_1 := by rw [← hw_day_1]; exact (Below.refl _ _).alloc (Nat.le_refl _) _
  have HBw_day_1 := Lib.hid (Below.step HBw_reading_0.out bw_day_1)
  have kreading_0_0__464 := cell_below bw_day_1 kreading_0_0
  clear bw_day_1
  have kday_1_0 : w_day_1.cell? ⟨w_reading_0.heap.size, 0, none⟩ = some (.int .i64 day) := by rw [← hw_day_1]; exact box_new _ _ _ 0 _ rfl
  replace H := bind_hid H
  obtain ⟨t_5, qt_5, H⟩ := H
  go_wp2_with fail
  clear kreading_0_0
  go_at_call 38
  refine (Go.Proofs.YtgimcnpkngpmiaaDoor.GiArePostmarks.C (list) A0 c0 _   (Lib.hid (Cells.below M0.out HBw_day_1.out)) N0 qt_5).mono ?_
  rintro e_t_5 wt_5 ⟨rfl, bt_5⟩
  have HBwt_5 := Lib.hid (Below.step HBw_day_1.out bt_5)
  replace kreading_0_0__464 := cell_below bt_5 kreading_0_0__464
  replace kday_1_0 := cell_below bt_5 kday_1_0
  clear bt_5
  cases t_5 with
  | false =>
    replace H := let_hid H
    obtain ⟨t_6, ht_6, H⟩ := H
    obtain rfl : t_6 = true := ht_6.symm
    replace H := join_hid H
    replace H := ite_t H
    replace H := app_hid H
    replace H := join_hid H
    replace H := ite_t H
    replace H := app_hid H
    replace H := ite_t H
    obtain ⟨w_t_17, hw_t_17⟩ : ∃ x, wt_5.alloc (.cells #[] 3) = x := ⟨_, rfl⟩
    have bw_t_17 : Below wt_5.heap.size wt_5 w_t_17 := by rw [← hw_t_17]; exact (Below.refl _ _).alloc (Nat.le_refl _) _
    have Ot_17 : Hid (w_t_17.ownsRow w.heap.size 3 1 (.slice (some ⟨wt_5.heap.size, 0, none⟩) 0 0) 0 []) := Lib.hid (by rw [← hw_t_17]; exact own_empty HBwt_5.out.size)
    have Dt_17_reading_0 := Lib.hid (apart_box kreading_0_0__464)
    have Dt_17_day_1 := Lib.hid (apart_box kday_1_0)
    have HBw_t_17 := Lib.hid (Below.step HBwt_5.out bw_t_17)
    have kreading_0_0__465 := cell_below bw_t_17 kreading_0_0__464
    have kday_1_0__466 := cell_below bw_t_17 kday_1_0
    clear bw_t_17
    cases ret_hid H
    go_wp2_with fail
    go_ret2
    exact ⟨(some ⟨wt_5.heap.size, 0, none⟩), 0, rfl, Ot_17.out, HBw_t_17.out⟩
  | true =>
    replace H := let_hid H
    obtain ⟨t_6, ht_6, H⟩ := H
    obtain rfl : t_6 = false := ht_6.symm
    replace H := join_hid H
    replace H := ite_f H
    replace H := bind_hid H
    obtain ⟨t_9, qt_9, H⟩ := H
    go_wp2_with fail
    go_at_call 46
    refine (Go.Proofs.YtgimcnpkngpmiaaDoor.GiIsReading.C (reading)  _ (tab_below HBwt_5.out HT)   qt_9).mono ?_
    rintro e_t_9 wt_9 ⟨rfl, bt_9⟩
    have HBwt_9 := Lib.hid (Below.step HBwt_5.out bt_9)
    replace kreading_0_0__464 := cell_below bt_9 kreading_0_0__464
    replace kday_1_0 := cell_below bt_9 kday_1_0
    clear bt_9
    cases t_9 with
    | false =>
      replace H := let_hid H
      obtain ⟨t_10, ht_10, H⟩ := H
      obtain rfl : t_10 = true := ht_10.symm
      replace H := app_hid H
      replace H := join_hid H
      replace H := ite_t H
      replace H := app_hid H
      replace H := ite_t H
      obtain ⟨w_t_17, hw_t_17⟩ : ∃ x, wt_9.alloc (.cells #[] 3) = x := ⟨_, rfl⟩
      have bw_t_17 : Below wt_9.heap.size wt_9 w_t_17 := by rw [← hw_t_17]; exact (Below.refl _ _).alloc (Nat.le_refl _) _
      have Ot_17 : Hid (w_t_17.ownsRow w.heap.size 3 1 (.slice (some ⟨wt_9.heap.size, 0, none⟩) 0 0) 0 []) := Lib.hid (by rw [← hw_t_17]; exact own_empty HBwt_9.out.size)
      have Dt_17_reading_0 := Lib.hid (apart_box kreading_0_0__464)
      have Dt_17_day_1 := Lib.hid (apart_box kday_1_0)
      have HBw_t_17 := Lib.hid (Below.step HBwt_9.out bw_t_17)
      have kreading_0_0__467 := cell_below bw_t_17 kreading_0_0__464
      have kday_1_0__468 := cell_below bw_t_17 kday_1_0
      clear bw_t_17
      cases ret_hid H
      go_wp2_with fail
      go_ret2
      exact ⟨(some ⟨wt_9.heap.size, 0, none⟩), 0, rfl, Ot_17.out, HBw_t_17.out⟩
    | true =>
      replace H := let_hid H
      obtain ⟨t_10, ht_10, H⟩ := H
      obtain rfl : t_10 = false := ht_10.symm
      replace H := app_hid H
      replace H := join_hid H
      replace H := ite_f H
      replace H := bind_hid H
      obtain ⟨t_14, qt_14, H⟩ := H
      go_wp2_with fail
      go_at_call 47
      refine (Go.Proofs.YtgimcnpkngpmiaaDoor.GiIsDay.C (day)  _    qt_14).mono ?_
      rintro e_t_14 wt_14 ⟨rfl, bt_14⟩
      have HBwt_14 := Lib.hid (Below.step HBwt_9.out bt_14)
      replace kreading_0_0__464 := cell_below bt_14 kreading_0_0__464
      replace kday_1_0 := cell_below bt_14 kday_1_0
      clear bt_14
      cases t_14 with
      | false =>
        replace H := let_hid H
        obtain ⟨t_15, ht_15, H⟩ := H
        obtain rfl : t_15 = true := ht_15.symm
        replace H := app_hid H
        replace H := ite_t H
        obtain ⟨w_t_17, hw_t_17⟩ : ∃ x, wt_14.alloc (.cells #[] 3) = x := ⟨_, rfl⟩
        have bw_t_17 : Below wt_14.heap.size wt_14 w_t_17 := by rw [← hw_t_17]; exact (Below.refl _ _).alloc (Nat.le_refl _) _
        have Ot_17 : Hid (w_t_17.ownsRow w.heap.size 3 1 (.slice (some ⟨wt_14.heap.size, 0, none⟩) 0 0) 0 []) := Lib.hid (by rw [← hw_t_17]; exact own_empty HBwt_14.out.size)
        have Dt_17_reading_0 := Lib.hid (apart_box kreading_0_0__464)
        have Dt_17_day_1 := Lib.hid (apart_box kday_1_0)
        have HBw_t_17 := Lib.hid (Below.step HBwt_14.out bw_t_17)
        have kreading_0_0__469 := cell_below bw_t_17 kreading_0_0__464
        have kday_1_0__470 := cell_below bw_t_17 kday_1_0
        clear bw_t_17
        cases ret_hid H
        go_wp2_with fail
        go_ret2
        exact ⟨(some ⟨wt_14.heap.size, 0, none⟩), 0, rfl, Ot_17.out, HBw_t_17.out⟩
      | true =>
        replace H := let_hid H
        obtain ⟨t_15, ht_15, H⟩ := H
        obtain rfl : t_15 = false := ht_15.symm
        replace H := app_hid H
        replace H := ite_f H
        replace H := bind_hid H
        obtain ⟨t_22, qt_22, H⟩ := H
        go_wp2_with fail
        go_at_call 48
        refine (Go.Proofs.YtgimcnpkngpmiaaDoor.GiKeysWherePostmarkIntiIdOfPostmarkiReadMarks1.C (list) (day) (reading) A0 c0 (w_reading_0.heap.size) (w.heap.size) _   (Lib.hid (Cells.below M0.out HBwt_14.out)) N0 (Lib.hid kday_1_0) (Lib.hid kreading_0_0__464) qt_22).mono ?_
        rintro e_t_22 wt_22 ⟨At_22, ct_22, rfl, ot_22, bt_22⟩
        have Dt_22_reading_0 := Lib.hid (apart_callbox ot_22 kreading_0_0__464)
        have Dt_22_day_1 := Lib.hid (apart_callbox ot_22 kday_1_0)
        have Ot_22 := Lib.hid (own_lower ot_22 HBwt_14.out.size)
        clear ot_22
        have HBwt_22 := Lib.hid (Below.step HBwt_14.out bt_22)
        replace kreading_0_0__464 := cell_below bt_22 kreading_0_0__464
        replace kday_1_0 := cell_below bt_22 kday_1_0
        clear bt_22
        cases ret_hid H
        go_wp2_with fail
        go_ret2
        exact ⟨At_22, ct_22, rfl, Ot_22.out, HBwt_22.out⟩
end Go.Proofs.YtgimcnpkngpmiaaDoor.GiReadMarks

/- loop.example/g01062/laws.rHas as a plain function, and the contract of the program's: where the plain one has an answer, the program has it. Conditions: slices read as lists. -/
namespace Go.Proofs.YtgimcnpkngpmiaaDoor.GlRHas
set_option linter.unusedVariables false
set_option linter.unusedSimpArgs false
open Go.RowKit
open Go.Proofs.YtgimcnpkngpmiaaDoor.Rowed Go.Proofs.YtgimcnpkngpmiaaDoor.Turn Go.Proofs.YtgimcnpkngpmiaaDoor.Aid Go.Proofs.YtgimcnpkngpmiaaDoor.GoP Go.Proofs.YtgimcnpkngpmiaaDoor.GoM

def l0 (list : (List Int)) (x : Int) (k0 : Nat) (s : Unit) (nx0 bk0 : Unit → Option (Bool)) : Option (Bool) :=
  
  Option.bind (idx list (k0 : Int)) fun (yt_8 : Int) =>
  letK (yt_8 == x) fun (t_11 : Bool) =>
  iteK t_11
  (some true)
  (appK nx0 ())

def e0  (s : Unit) : Option (Bool) :=
  
  some false

def P (list : (List Int)) (x : Int) : Option (Bool) :=
  cntK (l0 list x) (list.length) 0 () (e0 )

set_option maxRecDepth 100000 in
set_option maxHeartbeats 2000000 in
theorem C (list : (List Int)) (x : Int) (A0 : Option Addr) (c0 : Nat)  (w : World) (M0 : Hid (Cells w 1 A0 list.length (Go.Proofs.YtgimcnpkngpmiaaDoor.HelpInt.iv list))) (N0 : Hid (list.length ≤ 9223372036854775807))  {r : Bool} (H : Hid (P list x = some r)) :
    Calls Tryd.prog 25 #[.slice A0 list.length c0, .int .i64 x] w (Gives (.bool r) w) := by
  have HB := Lib.hid (Below.refl w.heap.size w)
  unfold P at H
  have N0o := N0.out
  go_enter Tryd.func25, Tryd.ntmps25
  go_wp2_with fail
  go_loopg [5] (list.length) (fun m_ v5_ wr => ∃ (k0 : Nat) , k0 + m_ = list.length ∧ v5_ = .int .i64 (k0 : Int) ∧ Hid (cntK (l0 list x) m_ k0 () (e0 ) = some r) ∧ Hid (Below w.heap.size w wr))
  case atStart => exact ⟨0, by omega, rfl, H, HB⟩
  case round =>
    obtain ⟨k0, hkm0, rfl, H, HBwr0⟩ := hrel
    rename World => wr0
    cases gk with
    | zero =>
      obtain rfl : k0 = list.length := by omega
      have hc0 : decide (((list.length : Nat) : Int) < ((list.length : Nat) : Int)) = false := by simp
      replace H := cnt_zero H
      unfold e0 at H
      obtain rfl := ret_hid H
      go_wp2_with fail
      go_ret
      exact ⟨rfl, HBwr0.out⟩
    | succ m0 =>
      have hlt0 : k0 < list.length := by omega
      have hc0 : decide ((k0 : Int) < ((list.length : Nat) : Int)) = true := by simp; omega
      replace H := cnt_succ H
      unfold l0 at H
      replace H := idx_hid H
      obtain ⟨nt_8, yt_8, et_8, lt_8, gt_8, H⟩ := H
      obtain rfl : k0 = nt_8 := by omega
      clear et_8
      obtain ⟨ab_t_8, ao_t_8, zt_8, At_8, z_t_8, ct_8_0⟩ := Go.Proofs.YtgimcnpkngpmiaaDoor.HelpInt.Ints.at_ M0.out lt_8
      obtain rfl := Option.some.inj (gt_8.out.symm.trans z_t_8)
      subst At_8
      have ltt_8 := cell_lt ct_8_0
      replace ct_8_0 := cell_below HBwr0.out ct_8_0
      clear z_t_8
      have b0t_8 : (0 : Int) ≤ (k0 : Int) := by omega
      have b1t_8 : (k0 : Int) < ((list.length : Nat) : Int) := by omega
      have b2t_8 : ((k0 : Int)).toNat = k0 := by omega
      replace H := let_hid H
      obtain ⟨t_11, ht_11, H⟩ := H
      cases t_11 with
      | false =>
        replace H := ite_f H
        replace H := app_hid H
        go_wp2_with fail
        go_roundg m0
        case measure => omega
        case rel => exact ⟨k0 + 1, by omega, by go_num, H, HBwr0⟩
      | true =>
        replace H := ite_t H
        obtain rfl := ret_hid H
        go_wp2_with fail
        go_ret
        exact ⟨rfl, HBwr0.out⟩
end Go.Proofs.YtgimcnpkngpmiaaDoor.GlRHas

/- loop.example/g01062/spec.DrawLatestUse as a plain function, and the contract of the program's: where the plain one has an answer, the program has it. Conditions: slices read as lists. -/
namespace Go.Proofs.YtgimcnpkngpmiaaDoor.GsDrawLatestUse
set_option linter.unusedVariables false
set_option linter.unusedSimpArgs false
open Go.RowKit
open Go.Proofs.YtgimcnpkngpmiaaDoor.Rowed Go.Proofs.YtgimcnpkngpmiaaDoor.Turn Go.Proofs.YtgimcnpkngpmiaaDoor.Aid Go.Proofs.YtgimcnpkngpmiaaDoor.GoP Go.Proofs.YtgimcnpkngpmiaaDoor.GoM

def P (fuel : Nat) (tapes : List Int → Go.Proofs.YtgimcnpkngpmiaaDoor.GoC.Tape) (code : (List Int)) : Option ((List Go.Proofs.YtgimcnpkngpmiaaDoor.PPostmark.Postmark) × ByteArray) :=
  letK (tapes code) fun (t_4 : Go.Proofs.YtgimcnpkngpmiaaDoor.GoC.Tape) =>
  bind2 (Go.Proofs.YtgimcnpkngpmiaaDoor.GsL1CurPostmarks11.P fuel t_4) fun (t_7 : (List Go.Proofs.YtgimcnpkngpmiaaDoor.PPostmark.Postmark)) (t_7_tp : Go.Proofs.YtgimcnpkngpmiaaDoor.GoC.Tape) =>
  bind2 (Go.Proofs.YtgimcnpkngpmiaaDoor.GsL1CurOne.P t_7_tp 10) fun (t_10 : Bool) (t_10_tp : Go.Proofs.YtgimcnpkngpmiaaDoor.GoC.Tape) =>
  iteK t_10
  (letK ([(⟨#[122, 117, 103]⟩ : ByteArray), (⟨#[]⟩ : ByteArray), (⟨#[66, 101, 114, 110]⟩ : ByteArray)]) fun (t_13 : (List ByteArray)) =>
  bind2 (Go.Proofs.YtgimcnpkngpmiaaDoor.GsL1CurOf.P t_10_tp t_13) fun (t_14 : ByteArray) (t_14_tp : Go.Proofs.YtgimcnpkngpmiaaDoor.GoC.Tape) =>
  some (t_7, t_14))
  (bind2 (Go.Proofs.YtgimcnpkngpmiaaDoor.GsL1CurTown11.P t_10_tp) fun (t_19 : ByteArray) (t_19_tp : Go.Proofs.YtgimcnpkngpmiaaDoor.GoC.Tape) =>
  some (t_7, t_19))

set_option maxRecDepth 100000 in
set_option maxHeartbeats 2000000 in
theorem C (fuel : Nat) (tapes : List Int → Go.Proofs.YtgimcnpkngpmiaaDoor.GoC.Tape) (code : (List Int)) (A0 : Option Addr) (c0 : Nat)  (w : World) (HE : Hid (Go.Proofs.YtgimcnpkngpmiaaDoor.GoC.Tells tapes)) (M0 : Hid (Cells w 1 A0 code.length (Go.Proofs.YtgimcnpkngpmiaaDoor.GoC.u8s code))) (N0 : Hid (code.length ≤ 9223372036854775807)) (V0 : Hid (∀ z ∈ code, 0 ≤ z ∧ z ≤ 255))  {r0 : (List Go.Proofs.YtgimcnpkngpmiaaDoor.PPostmark.Postmark)} {r1 : ByteArray} (H : Hid (P fuel tapes code = some (r0, r1))) :
    Calls Tryd.prog 26 #[.slice A0 code.length c0] w (fun e w' => ∃ A_r0 c_r0, e = .returned (.tuple #[.slice A_r0 r0.length c_r0, .string r1]) ∧ w'.ownsRow w.heap.size 39 6 (.slice A_r0 r0.length c_r0) r0.length (Go.Proofs.YtgimcnpkngpmiaaDoor.PPostmark.flat r0) ∧ Below w.heap.size w w') := by
  have HB := Lib.hid (Below.refl w.heap.size w)
  unfold P at H
  have N0o := N0.out
  go_enter Tryd.func26, Tryd.ntmps26
  replace H := let_hid H
  obtain ⟨t_4, ht_4, H⟩ := H
  obtain ⟨w_t_4, hw_t_4⟩ : ∃ x, w.alloc (.cells #[.slice A0 code.length c0, .int .i64 0, .int .u64 0] 72) = x := ⟨_, rfl⟩
  have bw_t_4 : Below w.heap.size w w_t_4 := by rw [← hw_t_4]; exact (Below.refl _ _).alloc (Nat.le_refl _) _
  have Kt_4 : Hid (Go.Proofs.YtgimcnpkngpmiaaDoor.GoC.CurIs w_t_4 w.heap.size w.heap.size A0 c0 t_4) := Lib.hid (by rw [← hw_t_4, ← ht_4]; exact Go.Proofs.YtgimcnpkngpmiaaDoor.GoC.cur_new HB.out.size (Cells.below M0.out HB.out) (fun a_ ha_ h0_ => by subst ha_; exact Go.Proofs.YtgimcnpkngpmiaaDoor.GoC.cells_lt M0.out (by unfold Go.Proofs.YtgimcnpkngpmiaaDoor.GoC.u8s; rw [List.length_map]; exact h0_)) (HE.out.2.2 code V0.out N0.out))
  have hht_4 := Lib.hid ht_4
  clear ht_4
  have HBw_t_4 := Lib.hid (Below.step HB.out bw_t_4)
  clear bw_t_4
  replace H := bind2_hid H
  obtain ⟨t_7, t_7_tp, qt_7, H⟩ := H
  go_wp2_with fail
  go_at_call 59
  refine (Go.Proofs.YtgimcnpkngpmiaaDoor.GsL1CurPostmarks11.C fuel (t_4) (w.heap.size) (A0) (c0) (w.heap.size) _   Kt_4 qt_7).mono ?_
  rintro e_t_7 wt_7 ⟨At_7, ct_7, rfl, ot_7, kt_7, gt_7⟩
  have Dt_7_t_4 := Lib.hid (Go.Proofs.YtgimcnpkngpmiaaDoor.GoC.apart_callcur ot_7 Kt_4.out)
  have Ot_7 := Lib.hid (own_lower ot_7 HBw_t_4.out.size)
  clear ot_7
  have Kt_7 := Lib.hid kt_7
  have Gt_7 : Hid (w_t_4.grownBy wt_7 (Value.slice (some ⟨w.heap.size, 0, none⟩) 1 1).ownBlock) := Lib.hid gt_7
  clear kt_7 gt_7
  have HBwt_7 := Lib.hid (Go.Proofs.YtgimcnpkngpmiaaDoor.GoC.below_cur HBw_t_4.out Gt_7.out HBw_t_4.out.size (Go.Proofs.YtgimcnpkngpmiaaDoor.GoC.cur_lt Kt_4.out).1)
  clear Kt_4 Gt_7
  replace H := bind2_hid H
  obtain ⟨t_10, t_10_tp, qt_10, H⟩ := H
  go_wp2_with fail
  go_at_call 68
  refine (Go.Proofs.YtgimcnpkngpmiaaDoor.GsL1CurOne.C (t_7_tp) (10) (w.heap.size) (A0) (c0) (w.heap.size) _   Kt_7 qt_10).mono ?_
  rintro e_t_10 wt_10 ⟨rfl, kt_10, gt_10⟩
  have Kt_10 := Lib.hid kt_10
  have Gt_10 : Hid (wt_7.grownBy wt_10 (Value.slice (some ⟨w.heap.size, 0, none⟩) 1 1).ownBlock) := Lib.hid gt_10
  clear kt_10 gt_10
  have HBwt_10 := Lib.hid (Go.Proofs.YtgimcnpkngpmiaaDoor.GoC.below_cur HBwt_7.out Gt_10.out HBwt_7.out.size (Go.Proofs.YtgimcnpkngpmiaaDoor.GoC.cur_lt Kt_7.out).1)
  replace Ot_7 := Lib.hid (own_other Ot_7.out Gt_10.out (Apart.symm Dt_7_t_4.out))
  clear Kt_7 Gt_10
  cases t_10 with
  | false =>
    replace H := ite_f H
    replace H := bind2_hid H
    obtain ⟨t_19, t_19_tp, qt_19, H⟩ := H
    go_wp2_with fail
    go_at_call 70
    refine (Go.Proofs.YtgimcnpkngpmiaaDoor.GsL1CurTown11.C (t_10_tp) (w.heap.size) (A0) (c0) (w.heap.size) _   Kt_10 qt_19).mono ?_
    rintro e_t_19 wt_19 ⟨rfl, kt_19, gt_19⟩
    have Kt_19 := Lib.hid kt_19
    have Gt_19 : Hid (wt_10.grownBy wt_19 (Value.slice (some ⟨w.heap.size, 0, none⟩) 1 1).ownBlock) := Lib.hid gt_19
    clear kt_19 gt_19
    have HBwt_19 := Lib.hid (Go.Proofs.YtgimcnpkngpmiaaDoor.GoC.below_cur HBwt_10.out Gt_19.out HBwt_10.out.size (Go.Proofs.YtgimcnpkngpmiaaDoor.GoC.cur_lt Kt_10.out).1)
    replace Ot_7 := Lib.hid (own_other Ot_7.out Gt_19.out (Apart.symm Dt_7_t_4.out))
    clear Kt_10 Gt_19
    cases ret_hid H
    go_wp2_with fail
    go_ret2
    exact ⟨At_7, ct_7, rfl, Ot_7.out, HBwt_19.out⟩
  | true =>
    replace H := ite_t H
    replace H := let_hid H
    obtain ⟨t_13, ht_13, H⟩ := H
    obtain ⟨w_t_13, hw_t_13⟩ : ∃ x, wt_10.alloc (.cells #[.string (⟨#[122, 117, 103]⟩ : ByteArray), .string (⟨#[]⟩ : ByteArray), .string (⟨#[66, 101, 114, 110]⟩ : ByteArray)] 9) = x := ⟨_, rfl⟩
    have bw_t_13 : Below wt_10.heap.size wt_10 w_t_13 := by rw [← hw_t_13]; exact (Below.refl _ _).alloc (Nat.le_refl _) _
    have hs_t_13 := HBwt_10.out.size
    have nt_13 : t_13.length = 3 := by rw [← ht_13]; rfl
    have Ot_13 : Hid (w_t_13.ownsRow w.heap.size 9 1 (.slice (some ⟨wt_10.heap.size, 0, none⟩) 3 3) 3 (t_13.map Value.string)) := by
      rw [← hw_t_13, ← ht_13]
      have e_ : ([.string (⟨#[122, 117, 103]⟩ : ByteArray), .string (⟨#[]⟩ : ByteArray), .string (⟨#[66, 101, 114, 110]⟩ : ByteArray)] : List Value) = (([(⟨#[122, 117, 103]⟩ : ByteArray), (⟨#[]⟩ : ByteArray), (⟨#[66, 101, 114, 110]⟩ : ByteArray)] : List ByteArray).map Value.string) := rfl
      exact Lib.hid (own_laid (n := 3) hs_t_13 e_ rfl (by unfold maxLen; omega))
    clear hs_t_13
    have hht_13 := Lib.hid ht_13
    clear ht_13
    replace nt_13 := Lib.hid nt_13
    have Dt_13_t_7 := Lib.hid (apart_fresh Ot_7.out)
    have Dt_13_t_4 := Lib.hid (Go.Proofs.YtgimcnpkngpmiaaDoor.GoC.apart_cur Kt_10.out)
    have HBw_t_13 := Lib.hid (Below.step HBwt_10.out bw_t_13)
    replace Ot_7 := Lib.hid (own_below Ot_7.out bw_t_13)
    replace Kt_10 := Lib.hid (Go.Proofs.YtgimcnpkngpmiaaDoor.GoC.cur_below Kt_10.out bw_t_13)
    clear bw_t_13
    replace H := bind2_hid H
    obtain ⟨t_14, t_14_tp, qt_14, H⟩ := H
    go_wp2_with fail
    have hc_ := nt_13.out
    have hv_ : (Value.slice (some ⟨wt_10.heap.size, 0, none⟩) 3 3 : Value) = Value.slice (some ⟨wt_10.heap.size, 0, none⟩) t_13.length 3 := by rw [hc_]
    try rw [hv_]
    replace Ot_13 := Lib.hid (own_len hc_ Ot_13.out)
    clear hc_ hv_
    go_wp2_with fail
    go_at_call 69
    refine (Go.Proofs.YtgimcnpkngpmiaaDoor.GsL1CurOf.C (t_10_tp) (t_13) (some ⟨wt_10.heap.size, 0, none⟩) 3 (w.heap.size) (A0) (c0) (w.heap.size) _   (Lib.hid (own_cells Ot_13.out)) (Lib.hid (own_max Ot_13.out)) Kt_10 (Lib.hid (fun _ => Dt_13_t_4.out)) qt_14).mono ?_
    rintro e_t_14 wt_14 ⟨rfl, kt_14, gt_14⟩
    have Kt_14 := Lib.hid kt_14
    have Gt_14 : Hid (w_t_13.grownBy wt_14 (Value.slice (some ⟨w.heap.size, 0, none⟩) 1 1).ownBlock) := Lib.hid gt_14
    clear kt_14 gt_14
    have HBwt_14 := Lib.hid (Go.Proofs.YtgimcnpkngpmiaaDoor.GoC.below_cur HBw_t_13.out Gt_14.out HBw_t_13.out.size (Go.Proofs.YtgimcnpkngpmiaaDoor.GoC.cur_lt Kt_10.out).1)
    replace Ot_7 := Lib.hid (own_other Ot_7.out Gt_14.out (Apart.symm Dt_7_t_4.out))
    replace Ot_13 := Lib.hid (own_other Ot_13.out Gt_14.out (Apart.symm Dt_13_t_4.out))
    clear Kt_10 Gt_14
    cases ret_hid H
    go_wp2_with fail
    go_ret2
    exact ⟨At_7, ct_7, rfl, Ot_7.out, HBwt_14.out⟩
end Go.Proofs.YtgimcnpkngpmiaaDoor.GsDrawLatestUse

/- Rows of records in one's own memory: clear of a tail; a part taken out (append(s[:i], s[j:]...), clear of what is left behind). No condition. -/
namespace Go.Proofs.YtgimcnpkngpmiaaDoor.GoD
set_option linter.unusedVariables false
set_option linter.unusedSimpArgs false
open Go.RowKit
open Go.Proofs.YtgimcnpkngpmiaaDoor.Rowed Go.Proofs.YtgimcnpkngpmiaaDoor.Turn Go.Proofs.YtgimcnpkngpmiaaDoor.GoM Go.Proofs.YtgimcnpkngpmiaaDoor.GoK

theorem flatten_rep (zs : List Value) : ∀ (n i : Nat), (List.replicate n zs).flatten[i]? = if i < n * zs.length then some zs[i % zs.length]! else none
  | 0, i => by simp
  | n + 1, i => by
    rw [List.replicate_succ, List.flatten_cons]
    by_cases hi : i < zs.length
    · rw [List.getElem?_append_left hi, Nat.mod_eq_of_lt hi, if_pos (by rw [Nat.succ_mul]; omega), List.getElem?_eq_getElem hi]
      simp [getElem!_pos, hi]
    · have h1 : (i - zs.length < n * zs.length) ↔ (i < (n + 1) * zs.length) := by rw [Nat.succ_mul]; omega
      have h2 : (i - zs.length) % zs.length = i % zs.length := (Nat.mod_eq_sub_mod (by omega)).symm
      rw [List.getElem?_append_right (by omega), flatten_rep zs n (i - zs.length), h2]
      simp only [h1]
theorem rep_len (zs : List Value) (n : Nat) : (List.replicate n zs).flatten.length = n * zs.length := by simp
theorem zero_list (zs : List Value) (n : Nat) : (Builtin.zeroCells zs.toArray n).toList = (List.replicate n zs).flatten := by
  apply List.ext_getElem?
  intro i
  rw [flatten_rep]
  unfold Builtin.zeroCells
  by_cases hi : i < n * zs.length
  · rw [if_pos hi]; simp [hi]
  · rw [if_neg hi, List.getElem?_eq_none (by simp; omega)]
theorem run_clearK {P : Program} (w : World) (t e ty : TypeId) (z : Value) (zs : List Value) (ht : P.underlying t = some (.slice e)) (hv : ∀ w, (zeroValue e).run P w = .ok z w) (hz : z.cells = zs.toArray) (h1 : ∀ u ∈ zs, u.oneCell' = true) (b o n c : Nat) (hn : 0 < n)
    (hc : ∀ j, j < n * zs.length → (w.cell? ⟨b, o + j, none⟩).isSome = true) (hf : ∀ j, j < n * zs.length → w.frozen? ⟨b, o + j, none⟩ = false) :
    (Builtin.clear_ #[t] ty #[.slice (some ⟨b, o, none⟩) n c]).run P w = .ok (.tuple #[]) (w.setCells b o (List.replicate n zs).flatten) := by
  have hl := rep_len zs n
  have hst := run_storeCells_cells (P := P) b o (List.replicate n zs).flatten 0 w (by rw [hl]; simpa using hc) (by rw [hl]; simpa using hf)
    (by intro v hv'; obtain ⟨l, hl1, hl2⟩ := List.mem_flatten.1 hv'; rw [List.eq_of_mem_replicate hl1] at hl2; exact h1 v hl2)
  simp only [Nat.add_zero] at hst
  have hzl := zero_list zs n
  obtain ⟨m, rfl⟩ : ∃ m, n = m + 1 := ⟨n - 1, by omega⟩
  simp [Builtin.clear_, run_underlying ht, hv, hz, hzl, hst]
theorem flat_clear {α : Type} (f : α → List Value) (K : Nat) (hK : ∀ x, (f x).length = K) (l : List α) (q m : Nat) (z : α) : (l.flatMap f).take (q * K) ++ (List.replicate m (f z)).flatten = (l.take q ++ List.replicate m z).flatMap f := by
  rw [flat_take f K hK, List.flatMap_append]
  congr 1
  induction m with
  | zero => rfl
  | succ m ih => rw [List.replicate_succ, List.flatten_cons, List.replicate_succ, List.flatMap_cons, ih]
/-- clear(s[lo:]) of a row of its own, of records -/
theorem own_clearK {P : Program} {t e : TypeId} {i : TypeInfo} {k : IntKind} {K n c b : Nat} {A : Option Addr} {lo : Int} {w : World} {xs ys zs : List Value} {z : Value}
    (ht : P.underlying t = some (.slice (P.elem t))) (he : P.elem t = e) (hi : P.info? e = some i) (hs : i.size = K) (hv : i.zero = some z) (hz : z.cells = zs.toArray) (hzl : zs.length = K) (hK : 0 < K) (h1 : ∀ u ∈ zs, u.oneCell' = true)
    (h : w.ownsRow b e K (.slice A n c) n xs) (hl : 0 ≤ lo ∧ lo ≤ (n : Int)) (hd : xs.take (lo.toNat * K) ++ (List.replicate (n - lo.toNat) zs).flatten = ys) :
    ∃ A' m c' w', (∀ W, (Instr.slice t (.slice A n c) (some (.int k lo)) none none).run P W = .ok (.slice A' m c') W) ∧ (∀ ty, (Builtin.clear_ #[t] ty #[.slice A' m c']).run P w = .ok (.tuple #[]) w') ∧
      w'.ownsRow b e K (.slice A n c) n ys ∧ w.grownBy w' (Value.slice A n c).ownBlock := by
  have hR := own_room h
  have hxs : xs.length = n * K := h.1
  have hsz : ∀ W, (sizeOf (P.elem t)).run P W = .ok K W := by intro W; subst he; simp [sizeOf, typeInfo, hi, hs]
  have hrun : ∀ W, (Instr.slice t (.slice A n c) (some (.int k lo)) none none).run P W = .ok (.slice (if c = lo.toNat then A else A.map (·.add (lo.toNat * K))) (n - lo.toNat) (c - lo.toNat)) W := by
    intro W
    rw [run_slice_l (P := P) W t A n c ht k lo hl.1 hl.2, hsz W]
    rfl
  by_cases hm : n - lo.toNat = 0
  · refine ⟨_, _, _, w, hrun, ?_, ?_, Aid.grown_refl _ _⟩
    · intro ty
      rw [hm]
      generalize (if c = lo.toNat then A else A.map (·.add (lo.toNat * K))) = A'
      cases A' <;> simp [Builtin.clear_, run_underlying ht]
    · have hle : n * K ≤ lo.toNat * K := Nat.mul_le_mul_right K (by omega)
      rw [← hd, hm, List.replicate_zero, List.flatten_nil, List.append_nil, List.take_of_length_le (by omega)]
      exact h
  · obtain ⟨g, rfl⟩ := own_some h (by omega)
    have hne : ¬ c = lo.toNat := by have := hR.1; omega
    have hcl := own_cells h
    have hmul : lo.toNat * K + (n - lo.toNat) * K = n * K := by rw [← Nat.add_mul]; congr 1; omega
    have hget : ∀ j, j < n * K → (w.cell? ⟨g, j, none⟩).isSome = true := by
      intro j hj
      obtain ⟨ad, e0, hc⟩ := hcl.2 (by omega)
      obtain rfl := Option.some.inj e0
      have := hc j xs[j] (List.getElem?_eq_getElem (by omega))
      rw [add_flat, Nat.zero_add] at this
      rw [this]; rfl
    have hadd : (if c = lo.toNat then (some ⟨g, 0, none⟩ : Option Addr) else (some ⟨g, 0, none⟩ : Option Addr).map (·.add (lo.toNat * K))) = some ⟨g, lo.toNat * K, none⟩ := by
      rw [if_neg hne, Option.map_some, add_flat, Nat.zero_add]
    rw [hadd] at hrun
    have hrl : (List.replicate (n - lo.toNat) zs).flatten.length = (n - lo.toNat) * K := by rw [rep_len, hzl]
    have h2 := own_setCells (List.replicate (n - lo.toNat) zs).flatten (lo.toNat * K) h (by rw [hrl]; omega)
    refine ⟨_, _, _, _, hrun, fun ty => ?_, ?_, h2.2⟩
    · exact run_clearK w t e ty z zs (he ▸ ht) (fun w => by simp [zeroValue, typeInfo, hi, hv]) hz h1 g (lo.toNat * K) (n - lo.toNat) (c - lo.toNat) (by omega) (fun j hj => hget _ (by rw [hzl] at hj; omega)) (fun j hj => h.frozenAt _)
    · have e2 : xs.take (lo.toNat * K) ++ (List.replicate (n - lo.toNat) zs).flatten ++ xs.drop (lo.toNat * K + (List.replicate (n - lo.toNat) zs).flatten.length) = ys := by
        rw [hrl, List.drop_of_length_le (by omega), List.append_nil, hd]
      rw [← e2]
      exact h2.1
end Go.Proofs.YtgimcnpkngpmiaaDoor.GoD

/- loop.example/g01062/impl.marksOf$1 as a plain function, and the contract of the program's: where the plain one has an answer, the program has it. Conditions: slices read as lists. -/
namespace Go.Proofs.YtgimcnpkngpmiaaDoor.GiMarksOf1
set_option linter.unusedVariables false
set_option linter.unusedSimpArgs false
open Go.RowKit
open Go.Proofs.YtgimcnpkngpmiaaDoor.Rowed Go.Proofs.YtgimcnpkngpmiaaDoor.Turn Go.Proofs.YtgimcnpkngpmiaaDoor.Aid Go.Proofs.YtgimcnpkngpmiaaDoor.GoP Go.Proofs.YtgimcnpkngpmiaaDoor.GoM

def P (p : Go.Proofs.YtgimcnpkngpmiaaDoor.PPostmark.Postmark) (hq0 : ByteArray) : Option (Bool) :=
  unPostmark p fun (p_id : Int) (p_town : ByteArray) (p_kind_ : Int) (p_first : Int) (p_last : Int) (p_lost : ByteArray) =>
  letK (!(p_town.toList == hq0.toList)) fun (t_5 : Bool) =>
  some t_5

set_option maxRecDepth 100000 in
set_option maxHeartbeats 2000000 in
theorem C (p : Go.Proofs.YtgimcnpkngpmiaaDoor.PPostmark.Postmark) (hq0 : ByteArray)  (gq0 : Nat) (w : World)  (Fq0h : Hid (w.cell? ⟨gq0, 0, none⟩ = some (.string hq0))) {r : Bool} (H : Hid (P p hq0 = some r)) :
    Calls Tryd.prog 88 #[p.val, .pointer (some ⟨gq0, 0, none⟩)] w (Gives (.bool r) w) := by
  have HB := Lib.hid (Below.refl w.heap.size w)
  unfold P at H
  obtain ⟨p_id, p_town, p_kind_, p_first, p_last, p_lost⟩ := p
  replace H := unPostmark_hid H
  unfold Go.Proofs.YtgimcnpkngpmiaaDoor.PPostmark.Postmark.val
  have Fq0 := Fq0h.out
  go_enter Tryd.func88, Tryd.ntmps88
  obtain ⟨w_p_0, hw_p_0⟩ : ∃ x, w.alloc (.cells #[.int .i64 p_id, .string p_town, .int .i64 p_kind_, .int .i64 p_first, .int .i64 p_last, .string p_lost] 39) = x := ⟨_, rfl⟩
  have bw_p_0 : Below w.heap.size w w_p_0 := by rw [← hw_p_0]; exact (Below.refl _ _).alloc (Nat.le_refl _) _
  have HBw_p_0 := Lib.hid (Below.step HB.out bw_p_0)
  have Fq0__471 := cell_below bw_p_0 Fq0
  clear bw_p_0
  have kp_0_0 : w_p_0.cell? ⟨w.heap.size, 0, none⟩ = some (.int .i64 p_id) := by rw [← hw_p_0]; exact box_new _ _ _ 0 _ rfl
  have kp_0_1 : w_p_0.cell? ⟨w.heap.size, 1, none⟩ = some (.string p_town) := by rw [← hw_p_0]; exact box_new _ _ _ 1 _ rfl
  have kp_0_2 : w_p_0.cell? ⟨w.heap.size, 2, none⟩ = some (.int .i64 p_kind_) := by rw [← hw_p_0]; exact box_new _ _ _ 2 _ rfl
  have kp_0_3 : w_p_0.cell? ⟨w.heap.size, 3, none⟩ = some (.int .i64 p_first) := by rw [← hw_p_0]; exact box_new _ _ _ 3 _ rfl
  have kp_0_4 : w_p_0.cell? ⟨w.heap.size, 4, none⟩ = some (.int .i64 p_last) := by rw [← hw_p_0]; exact box_new _ _ _ 4 _ rfl
  have kp_0_5 : w_p_0.cell? ⟨w.heap.size, 5, none⟩ = some (.string p_lost) := by rw [← hw_p_0]; exact box_new _ _ _ 5 _ rfl
  replace H := let_hid H
  obtain ⟨t_5, ht_5, H⟩ := H
  obtain rfl := ret_hid H
  go_wp2_with fail
  go_ret
  exact ⟨rfl, HBw_p_0.out⟩
end Go.Proofs.YtgimcnpkngpmiaaDoor.GiMarksOf1

/- slices.IndexFunc[[]loop.example/g01062/impl.Postmark,loop.example/g01062/impl.Postmark] as a plain function, and the contract of the program's: where the plain one has an answer, the program has it. Conditions: slices read as lists. -/
namespace Go.Proofs.YtgimcnpkngpmiaaDoor.GxSlicesIndexFuncLoopExampleG01062ImplPostmarkLoopExampleG01062ImplPostmarkiMarksOf1
set_option linter.unusedVariables false
set_option linter.unusedSimpArgs false
open Go.RowKit
open Go.Proofs.YtgimcnpkngpmiaaDoor.Rowed Go.Proofs.YtgimcnpkngpmiaaDoor.Turn Go.Proofs.YtgimcnpkngpmiaaDoor.Aid Go.Proofs.YtgimcnpkngpmiaaDoor.GoP Go.Proofs.YtgimcnpkngpmiaaDoor.GoM

def l0 (s_0 : (List Go.Proofs.YtgimcnpkngpmiaaDoor.PPostmark.Postmark)) (hf1_0 : ByteArray) (k0 : Nat) (s : Unit) (nx0 bk0 : Unit → Option (Int)) : Option (Int) :=
  
  Option.bind (idx s_0 (k0 : Int)) fun (yt_10 : Go.Proofs.YtgimcnpkngpmiaaDoor.PPostmark.Postmark) =>
  unPostmark yt_10 fun (t_10_id : Int) (t_10_town : ByteArray) (t_10_kind_ : Int) (t_10_first : Int) (t_10_last : Int) (t_10_lost : ByteArray) =>
  Option.bind (Go.Proofs.YtgimcnpkngpmiaaDoor.GiMarksOf1.P (Go.Proofs.YtgimcnpkngpmiaaDoor.PPostmark.Postmark.mk t_10_id t_10_town t_10_kind_ t_10_first t_10_last t_10_lost) hf1_0) fun (t_12 : Bool) =>
  iteK t_12
  (some (k0 : Int))
  (appK nx0 ())

def e0  (s : Unit) : Option (Int) :=
  
  some (-1)

def P (s_0 : (List Go.Proofs.YtgimcnpkngpmiaaDoor.PPostmark.Postmark)) (hf1_0 : ByteArray) : Option (Int) :=
  cntK (l0 s_0 hf1_0) (s_0.length) 0 () (e0 )

set_option maxRecDepth 100000 in
set_option maxHeartbeats 2000000 in
theorem C (s_0 : (List Go.Proofs.YtgimcnpkngpmiaaDoor.PPostmark.Postmark)) (hf1_0 : ByteArray) (A0 : Option Addr) (c0 : Nat) (gf1_0 : Nat) (w : World) (M0 : Hid (Cells w 6 A0 s_0.length (Go.Proofs.YtgimcnpkngpmiaaDoor.PPostmark.flat s_0))) (N0 : Hid (s_0.length ≤ 9223372036854775807)) (Ff1_0h : Hid (w.cell? ⟨gf1_0, 0, none⟩ = some (.string hf1_0))) {r : Int} (H : Hid (P s_0 hf1_0 = some r)) :
    Calls Tryd.prog 85 #[.slice A0 s_0.length c0, .func (.func 88) #[] #[.pointer (some ⟨gf1_0, 0, none⟩)]] w (Gives (.int .i64 r) w) := by
  have HB := Lib.hid (Below.refl w.heap.size w)
  unfold P at H
  have N0o := N0.out
  have Ff1_0 := Ff1_0h.out
  go_enter Tryd.func85, Tryd.ntmps85
  go_wp2_with fail
  go_loopg [8] (s_0.length) (fun m_ v8_ wr => ∃ (k0 : Nat) , k0 + m_ = s_0.length ∧ v8_ = .int .i64 (k0 : Int) ∧ Hid (cntK (l0 s_0 hf1_0) m_ k0 () (e0 ) = some r) ∧ Hid (Below w.heap.size w wr) ∧ wr.cell? ⟨gf1_0, 0, none⟩ = some (.string hf1_0))
  case atStart => exact ⟨0, by omega, rfl, H, HB, Ff1_0⟩
  case round =>
    obtain ⟨k0, hkm0, rfl, H, HBwr0, Ff1_0⟩ := hrel
    rename World => wr0
    cases gk with
    | zero =>
      obtain rfl : k0 = s_0.length := by omega
      have hc0 : decide (((s_0.length : Nat) : Int) < ((s_0.length : Nat) : Int)) = false := by simp
      replace H := cnt_zero H
      unfold e0 at H
      obtain rfl := ret_hid H
      go_wp2_with fail
      go_ret
      exact ⟨rfl, HBwr0.out⟩
    | succ m0 =>
      have hlt0 : k0 < s_0.length := by omega
      have hc0 : decide ((k0 : Int) < ((s_0.length : Nat) : Int)) = true := by simp; omega
      replace H := cnt_succ H
      unfold l0 at H
      replace H := idx_hid H
      obtain ⟨nt_10, yt_10, et_10, lt_10, gt_10, H⟩ := H
      obtain rfl : k0 = nt_10 := by omega
      clear et_10
      obtain ⟨t_10_id, t_10_town, t_10_kind_, t_10_first, t_10_last, t_10_lost⟩ := yt_10
      replace H := unPostmark_hid H
      obtain ⟨ab_t_10, ao_t_10, zt_10, At_10, z_t_10, ct_10_0, ct_10_1, ct_10_2, ct_10_3, ct_10_4, ct_10_5⟩ := Go.Proofs.YtgimcnpkngpmiaaDoor.OPostmark.at_ M0.out lt_10
      obtain rfl := Option.some.inj (gt_10.out.symm.trans z_t_10)
      subst At_10
      have ltt_10 := cell_lt ct_10_0
      replace ct_10_0 := cell_below HBwr0.out ct_10_0
      replace ct_10_1 := cell_below HBwr0.out ct_10_1
      replace ct_10_2 := cell_below HBwr0.out ct_10_2
      replace ct_10_3 := cell_below HBwr0.out ct_10_3
      replace ct_10_4 := cell_below HBwr0.out ct_10_4
      replace ct_10_5 := cell_below HBwr0.out ct_10_5
      clear z_t_10
      have b0t_10 : (0 : Int) ≤ (k0 : Int) := by omega
      have b1t_10 : (k0 : Int) < ((s_0.length : Nat) : Int) := by omega
      have b2t_10 : ((k0 : Int)).toNat = k0 := by omega
      replace H := bind_hid H
      obtain ⟨t_12, qt_12, H⟩ := H
      go_wp2_with fail
      go_at_call 88
      refine (Go.Proofs.YtgimcnpkngpmiaaDoor.GiMarksOf1.C ((Go.Proofs.YtgimcnpkngpmiaaDoor.PPostmark.Postmark.mk t_10_id t_10_town t_10_kind_ t_10_first t_10_last t_10_lost)) (hf1_0) (gf1_0) _   (Lib.hid Ff1_0) qt_12).mono ?_
      rintro e_t_12 wt_12 ⟨rfl, bt_12⟩
      have HBwt_12 := Lib.hid (Below.step HBwr0.out bt_12)
      replace Ff1_0 := cell_below bt_12 Ff1_0
      replace ct_10_0 := cell_below bt_12 ct_10_0
      replace ct_10_1 := cell_below bt_12 ct_10_1
      replace ct_10_2 := cell_below bt_12 ct_10_2
      replace ct_10_3 := cell_below bt_12 ct_10_3
      replace ct_10_4 := cell_below bt_12 ct_10_4
      replace ct_10_5 := cell_below bt_12 ct_10_5
      clear bt_12
      cases t_12 with
      | false =>
        replace H := ite_f H
        replace H := app_hid H
        go_wp2_with fail
        go_roundg m0
        case measure => omega
        case rel => exact ⟨k0 + 1, by omega, by go_num, H, HBwt_12, Ff1_0⟩
      | true =>
        replace H := ite_t H
        obtain rfl := ret_hid H
        go_wp2_with fail
        go_ret
        exact ⟨rfl, HBwt_12.out⟩
end Go.Proofs.YtgimcnpkngpmiaaDoor.GxSlicesIndexFuncLoopExampleG01062ImplPostmarkLoopExampleG01062ImplPostmarkiMarksOf1

/- slices.DeleteFunc[[]loop.example/g01062/impl.Postmark,loop.example/g01062/impl.Postmark] as a plain function, and the contract of the program's: where the plain one has an answer, the program has it. Conditions: slices read as lists. -/
namespace Go.Proofs.YtgimcnpkngpmiaaDoor.GxSlicesDeleteFuncLoopExampleG01062ImplPostmarkLoopExampleG01062ImplPostmarkiMarksOf1
set_option linter.unusedVariables false
set_option linter.unusedSimpArgs false
open Go.RowKit
open Go.Proofs.YtgimcnpkngpmiaaDoor.Rowed Go.Proofs.YtgimcnpkngpmiaaDoor.Turn Go.Proofs.YtgimcnpkngpmiaaDoor.Aid Go.Proofs.YtgimcnpkngpmiaaDoor.GoP Go.Proofs.YtgimcnpkngpmiaaDoor.GoM

def l0 (hf1_0 : ByteArray) (s : (List Go.Proofs.YtgimcnpkngpmiaaDoor.PPostmark.Postmark) × Int × Int) (nx0 bk0 : (List Go.Proofs.YtgimcnpkngpmiaaDoor.PPostmark.Postmark) × Int × Int → Option ((List Go.Proofs.YtgimcnpkngpmiaaDoor.PPostmark.Postmark))) : Option ((List Go.Proofs.YtgimcnpkngpmiaaDoor.PPostmark.Postmark)) :=
  unp3 s fun s_0l0 i_5l0 j_6l0 =>
  letK (decide (j_6l0 < (s_0l0.length : Int))) fun (t_15 : Bool) =>
  iteK t_15
  (Option.bind (idx s_0l0 j_6l0) fun (yt_18 : Go.Proofs.YtgimcnpkngpmiaaDoor.PPostmark.Postmark) =>
  unPostmark yt_18 fun (t_18_id : Int) (t_18_town : ByteArray) (t_18_kind_ : Int) (t_18_first : Int) (t_18_last : Int) (t_18_lost : ByteArray) =>
  Option.bind (Go.Proofs.YtgimcnpkngpmiaaDoor.GiMarksOf1.P (Go.Proofs.YtgimcnpkngpmiaaDoor.PPostmark.Postmark.mk t_18_id t_18_town t_18_kind_ t_18_first t_18_last t_18_lost) hf1_0) fun (t_24 : Bool) =>
  letK (!t_24) fun (t_25 : Bool) =>
  iteK t_25
  (Option.bind (idx s_0l0 i_5l0) fun (yt_29 : Go.Proofs.YtgimcnpkngpmiaaDoor.PPostmark.Postmark) =>
  unPostmark yt_29 fun (t_29_id : Int) (t_29_town : ByteArray) (t_29_kind_ : Int) (t_29_first : Int) (t_29_last : Int) (t_29_lost : ByteArray) =>
  letK (s_0l0.set (i_5l0).toNat (Go.Proofs.YtgimcnpkngpmiaaDoor.PPostmark.Postmark.mk t_18_id t_18_town t_18_kind_ t_18_first t_18_last t_18_lost)) fun (l30_30 : (List Go.Proofs.YtgimcnpkngpmiaaDoor.PPostmark.Postmark)) =>
  letK (IntKind.i64.wrap (i_5l0 + 1)) fun (t_32 : Int) =>
  letK (IntKind.i64.wrap (j_6l0 + 1)) fun (t_35 : Int) =>
  appK nx0 (l30_30, t_32, t_35))
  (letK (IntKind.i64.wrap (j_6l0 + 1)) fun (t_35 : Int) =>
  appK nx0 (s_0l0, i_5l0, t_35)))
  (appK bk0 (s_0l0, i_5l0, j_6l0))

def e0  (s : (List Go.Proofs.YtgimcnpkngpmiaaDoor.PPostmark.Postmark) × Int × Int) : Option ((List Go.Proofs.YtgimcnpkngpmiaaDoor.PPostmark.Postmark)) :=
  unp3 s fun s_0l0 i_5l0 j_6l0 =>
  guardK ((0 : Int) ≤ i_5l0 ∧ (i_5l0 : Int) ≤ (s_0l0.length : Int)) <|
  letK (List.take (Int.toNat i_5l0) s_0l0 ++ List.replicate (s_0l0.length - Int.toNat i_5l0) (Go.Proofs.YtgimcnpkngpmiaaDoor.PPostmark.Postmark.mk 0 ByteArray.empty 0 0 0 ByteArray.empty)) fun (cl_40 : (List Go.Proofs.YtgimcnpkngpmiaaDoor.PPostmark.Postmark)) =>
  guardK ((0 : Int) ≤ i_5l0 ∧ (i_5l0 : Int) ≤ (cl_40.length : Int)) <|
  letK (List.take (Int.toNat i_5l0) cl_40) fun (t_43 : (List Go.Proofs.YtgimcnpkngpmiaaDoor.PPostmark.Postmark)) =>
  some t_43

def P (fuel : Nat) (s_0 : (List Go.Proofs.YtgimcnpkngpmiaaDoor.PPostmark.Postmark)) (hf1_0 : ByteArray) : Option ((List Go.Proofs.YtgimcnpkngpmiaaDoor.PPostmark.Postmark)) :=
  Option.bind (Go.Proofs.YtgimcnpkngpmiaaDoor.GxSlicesIndexFuncLoopExampleG01062ImplPostmarkLoopExampleG01062ImplPostmarkiMarksOf1.P s_0 hf1_0) fun (t_3 : Int) =>
  letK (t_3 == (-1)) fun (t_6 : Bool) =>
  iteK t_6
  (some s_0)
  (letK (IntKind.i64.wrap (t_3 + 1)) fun (t_10 : Int) =>
  loopK (l0 hf1_0) fuel (s_0, t_3, t_10) (e0 ))

set_option maxRecDepth 100000 in
set_option maxHeartbeats 2000000 in
theorem C (fuel : Nat) (s_0 : (List Go.Proofs.YtgimcnpkngpmiaaDoor.PPostmark.Postmark)) (hf1_0 : ByteArray) (A0 : Option Addr) (c0 : Nat) (gf1_0 : Nat) (b0 : Nat) (w : World) (M0 : Hid (w.ownsRow b0 39 6 (.slice A0 s_0.length c0) s_0.length (Go.Proofs.YtgimcnpkngpmiaaDoor.PPostmark.flat s_0))) (N0 : Hid (s_0.length ≤ 9223372036854775807)) (Ff1_0h : Hid (w.cell? ⟨gf1_0, 0, none⟩ = some (.string hf1_0))) (LB : Hid (b0 ≤ w.heap.size)) (XHgf1_0 : Hid (Apart A0 (some ⟨gf1_0, 0, none⟩))) {r : (List Go.Proofs.YtgimcnpkngpmiaaDoor.PPostmark.Postmark)} (H : Hid (P fuel s_0 hf1_0 = some r)) :
    Calls Tryd.prog 87 #[.slice A0 s_0.length c0, .func (.func 88) #[] #[.pointer (some ⟨gf1_0, 0, none⟩)]] w (fun e w' => ∃ A_r c_r, e = .returned (.slice A_r r.length c_r) ∧ w'.ownsRow b0 39 6 (.slice A_r r.length c_r) r.length (Go.Proofs.YtgimcnpkngpmiaaDoor.PPostmark.flat r) ∧ w.grownBy w' (Value.slice A0 s_0.length c0).ownBlock ∧ Go.Proofs.YtgimcnpkngpmiaaDoor.GoK.From w A0 A_r) := by
  have HB := Lib.hid (Aid.grown_refl w (Value.slice A0 s_0.length c0).ownBlock)
  unfold P at H
  have N0o := N0.out
  have Ff1_0 := Ff1_0h.out
  obtain ⟨i0_39, hi_39, hz0_39, hz1_39, hz2_39⟩ := Aid.info_parts (P := Tryd.prog) (T := 39) (z := .agg #[.int .i64 0, .string ByteArray.empty, .int .i64 0, .int .i64 0, .int .i64 0, .string ByteArray.empty]) (s := 6) (b := 64) (by kernel_rfl)
  go_enter Tryd.func87, Tryd.ntmps87
  replace H := bind_hid H
  obtain ⟨t_3, qt_3, H⟩ := H
  go_wp2_with fail
  go_at_call 85
  refine (Go.Proofs.YtgimcnpkngpmiaaDoor.GxSlicesIndexFuncLoopExampleG01062ImplPostmarkLoopExampleG01062ImplPostmarkiMarksOf1.C (s_0) (hf1_0) A0 c0 (gf1_0) _   (Lib.hid (own_cells M0.out)) (Lib.hid (own_max M0.out)) (Lib.hid Ff1_0) qt_3).mono ?_
  rintro e_t_3 wt_3 ⟨rfl, bt_3⟩
  have HBwt_3 := Lib.hid (grown_below HB.out bt_3)
  replace Ff1_0 := cell_below bt_3 Ff1_0
  replace M0 := Lib.hid (own_below M0.out bt_3)
  clear bt_3
  replace H := let_hid H
  obtain ⟨t_6, ht_6, H⟩ := H
  cases t_6 with
  | false =>
    replace H := ite_f H
    replace H := let_hid H
    obtain ⟨t_10, ht_10, H⟩ := H
    go_wp2_with fail
    go_wp2_with fail
    go_loopg [5, 6] (fuel) (fun m_ v5_ v6_ wr => ∃ (s_0l0 : (List Go.Proofs.YtgimcnpkngpmiaaDoor.PPostmark.Postmark)) (i_5l0 : Int) (j_6l0 : Int), v5_ = .int .i64 i_5l0 ∧ v6_ = .int .i64 j_6l0 ∧ Hid (loopK (l0 hf1_0) m_ (s_0l0, i_5l0, j_6l0) (e0 ) = some r) ∧ Hid (w.grownBy wr (Value.slice A0 s_0.length c0).ownBlock) ∧ wr.cell? ⟨gf1_0, 0, none⟩ = some (.string hf1_0) ∧ Hid (wr.ownsRow b0 39 6 (.slice A0 s_0.length c0) s_0.length (Go.Proofs.YtgimcnpkngpmiaaDoor.PPostmark.flat s_0l0)) ∧ Hid (s_0l0.length = s_0.length))
    case atStart => exact ⟨_, _, _, rfl, rfl, H, HBwt_3, Ff1_0, M0, Lib.hid (rfl)⟩
    case round =>
      obtain ⟨s_0l0, i_5l0, j_6l0, rfl, rfl, H, HBwr0, Ff1_0, Os_0l0, hns_0l0⟩ := hrel
      rename World => wr0
      cases gk with
      | zero => exact (loop_zero H).elim
      | succ m0 =>
        replace H := loop_succ H
        unfold l0 at H
        replace H := unp3_hid H
        try rw [show s_0l0.length = s_0.length from hns_0l0.out] at H
        replace H := let_hid H
        obtain ⟨t_15, ht_15, H⟩ := H
        cases t_15 with
        | false =>
          replace H := ite_f H
          replace H := app_hid H
          unfold e0 at H
          replace H := unp3_hid H
          try rw [show s_0l0.length = s_0.length from hns_0l0.out] at H
          replace H := guard_hid H
          obtain ⟨hl_cl_40, H⟩ := H
          replace H := let_hid H
          obtain ⟨cl_40, hcl_40, H⟩ := H
          have dcl_40 : ((Go.Proofs.YtgimcnpkngpmiaaDoor.PPostmark.flat s_0l0)).take (Int.toNat i_5l0 * 6) ++ (List.replicate (s_0.length - Int.toNat i_5l0) [.int .i64 0, .string (⟨#[]⟩ : ByteArray), .int .i64 0, .int .i64 0, .int .i64 0, .string (⟨#[]⟩ : ByteArray)]).flatten = (Go.Proofs.YtgimcnpkngpmiaaDoor.PPostmark.flat cl_40) := by rw [← hcl_40]; exact Go.Proofs.YtgimcnpkngpmiaaDoor.GoD.flat_clear Go.Proofs.YtgimcnpkngpmiaaDoor.PPostmark.Postmark.cells 6 (fun _ => rfl) s_0l0 (Int.toNat i_5l0) (s_0.length - Int.toNat i_5l0) ((Go.Proofs.YtgimcnpkngpmiaaDoor.PPostmark.Postmark.mk 0 ByteArray.empty 0 0 0 ByteArray.empty))
          have ncl_40 : Hid (cl_40.length = s_0.length) := Lib.hid (by have hq_ := hns_0l0.out; rw [← hcl_40, List.length_append, List.length_take, List.length_replicate]; omega)
          obtain ⟨Acl_40, mcl_40, ccl_40, wcl_40, rcl_40, ucl_40, ocl_40, gcl_40⟩ := Go.Proofs.YtgimcnpkngpmiaaDoor.GoD.own_clearK (P := Tryd.prog) (t := 27) (e := 39) (k := .i64) (zs := [.int .i64 0, .string (⟨#[]⟩ : ByteArray), .int .i64 0, .int .i64 0, .int .i64 0, .string (⟨#[]⟩ : ByteArray)]) (by kernel_rfl) (by kernel_rfl) hi_39 hz1_39 hz0_39 (by rfl) (by rfl) (by decide) (by intro u_ hu_; simp only [List.mem_cons, List.not_mem_nil, or_false] at hu_; rcases hu_ with rfl | rfl | rfl | rfl | rfl | rfl <;> rfl) Os_0l0.out hl_cl_40 dcl_40
          have Pcl_40 := Lib.hid ocl_40
          have Gcl_40 := Lib.hid gcl_40
          clear ocl_40 gcl_40 dcl_40 hl_cl_40
          have hhcl_40 := Lib.hid hcl_40
          clear hcl_40
          have HBwcl_40 := Lib.hid (Aid.grown_tr HBwr0.out Gcl_40.out)
          have Ff1_0__472 := cell_other Ff1_0 Gcl_40.out XHgf1_0.out
          clear Os_0l0 Gcl_40
          replace H := guard_hid H
          obtain ⟨hl_t_43, H⟩ := H
          replace H := let_hid H
          obtain ⟨t_43, ht_43, H⟩ := H
          have dt_43 : ((Go.Proofs.YtgimcnpkngpmiaaDoor.PPostmark.flat cl_40)).take (Int.toNat i_5l0 * 6) = (Go.Proofs.YtgimcnpkngpmiaaDoor.PPostmark.flat t_43) := by
            rw [← ht_43]
            exact flat_take Go.Proofs.YtgimcnpkngpmiaaDoor.PPostmark.Postmark.cells 6 (fun _ => rfl) _ _
          have nt_43 : Int.toNat i_5l0 = t_43.length := by rw [← ht_43, List.length_take]; have h_ := ncl_40.out; omega
          replace hl_t_43 : (0 : Int) ≤ i_5l0 ∧ (i_5l0 : Int) ≤ ((s_0.length : Nat) : Int) := by have h_ := ncl_40.out; omega
          obtain ⟨rt_43, Ot_43⟩ := slice_head (P := Tryd.prog) (t := 27) (e := 39) (k := .i64) (by kernel_rfl) (by kernel_rfl) hi_39 hz1_39 Pcl_40.out hl_t_43 nt_43 dt_43
          replace Ot_43 := Lib.hid Ot_43
          clear dt_43 nt_43 hl_t_43
          have hht_43 := Lib.hid ht_43
          clear ht_43
          obtain rfl := ret_hid H
          go_wp2_with fail
          go_ret
          exact ⟨A0, c0, rfl, Ot_43.out, HBwcl_40.out, Go.Proofs.YtgimcnpkngpmiaaDoor.GoK.from_self⟩
        | true =>
          replace H := ite_t H
          replace H := idx_hid H
          obtain ⟨nt_18, yt_18, et_18, lt_18, gt_18, H⟩ := H
          subst et_18
          have nc_473 : nt_18 < s_0.length := by have := of_decide_eq_true ht_15; omega
          obtain ⟨t_18_id, t_18_town, t_18_kind_, t_18_first, t_18_last, t_18_lost⟩ := yt_18
          replace H := unPostmark_hid H
          have hqt_18 := hns_0l0.out
          obtain ⟨qt_18, Qt_18⟩ := own_some Os_0l0.out (by omega)
          subst Qt_18
          obtain ⟨ab_t_18, ao_t_18, zt_18, At_18, z_t_18, ct_18_0, ct_18_1, ct_18_2, ct_18_3, ct_18_4, ct_18_5⟩ := Go.Proofs.YtgimcnpkngpmiaaDoor.OPostmark.at_ (own_cells Os_0l0.out) (k := nt_18) (by omega)
          obtain rfl := Option.some.inj (gt_18.out.symm.trans z_t_18)
          simp only [Option.some.injEq, Addr.mk.injEq] at At_18
          obtain ⟨rfl, rfl, _⟩ := At_18
          clear z_t_18
          simp only [Nat.zero_add] at ct_18_0 ct_18_1 ct_18_2 ct_18_3 ct_18_4 ct_18_5
          have b0t_18 : (0 : Int) ≤ (nt_18 : Int) := by omega
          have b1t_18 : (nt_18 : Int) < ((s_0.length : Nat) : Int) := by omega
          have b2t_18 : ((nt_18 : Int)).toNat = nt_18 := by omega
          clear hqt_18
          obtain ⟨w_v_20, hw_v_20⟩ : ∃ x, wr0.alloc (.cells #[.int .i64 t_18_id, .string t_18_town, .int .i64 t_18_kind_, .int .i64 t_18_first, .int .i64 t_18_last, .string t_18_lost] 39) = x := ⟨_, rfl⟩
          have bw_v_20 : Below wr0.heap.size wr0 w_v_20 := by rw [← hw_v_20]; exact (Below.refl _ _).alloc (Nat.le_refl _) _
          have Dv_20_s_0l0 := Lib.hid (apart_fresh Os_0l0.out)
          have HBw_v_20 := Lib.hid (grown_below HBwr0.out bw_v_20)
          have Ff1_0__474 := cell_below bw_v_20 Ff1_0
          have ct_18_0__475 := cell_below bw_v_20 ct_18_0
          have ct_18_1__476 := cell_below bw_v_20 ct_18_1
          have ct_18_2__477 := cell_below bw_v_20 ct_18_2
          have ct_18_3__478 := cell_below bw_v_20 ct_18_3
          have ct_18_4__479 := cell_below bw_v_20 ct_18_4
          have ct_18_5__480 := cell_below bw_v_20 ct_18_5
          replace Os_0l0 := Lib.hid (own_below Os_0l0.out bw_v_20)
          clear bw_v_20
          have kv_20_0 : w_v_20.cell? ⟨wr0.heap.size, 0, none⟩ = some (.int .i64 t_18_id) := by rw [← hw_v_20]; exact box_new _ _ _ 0 _ rfl
          have kv_20_1 : w_v_20.cell? ⟨wr0.heap.size, 1, none⟩ = some (.string t_18_town) := by rw [← hw_v_20]; exact box_new _ _ _ 1 _ rfl
          have kv_20_2 : w_v_20.cell? ⟨wr0.heap.size, 2, none⟩ = some (.int .i64 t_18_kind_) := by rw [← hw_v_20]; exact box_new _ _ _ 2 _ rfl
          have kv_20_3 : w_v_20.cell? ⟨wr0.heap.size, 3, none⟩ = some (.int .i64 t_18_first) := by rw [← hw_v_20]; exact box_new _ _ _ 3 _ rfl
          have kv_20_4 : w_v_20.cell? ⟨wr0.heap.size, 4, none⟩ = some (.int .i64 t_18_last) := by rw [← hw_v_20]; exact box_new _ _ _ 4 _ rfl
          have kv_20_5 : w_v_20.cell? ⟨wr0.heap.size, 5, none⟩ = some (.string t_18_lost) := by rw [← hw_v_20]; exact box_new _ _ _ 5 _ rfl
          replace H := bind_hid H
          obtain ⟨t_24, qt_24, H⟩ := H
          go_wp2_with fail
          clear Ff1_0 ct_18_0 ct_18_1 ct_18_2 ct_18_3 ct_18_4 ct_18_5
          go_at_call 88
          refine (Go.Proofs.YtgimcnpkngpmiaaDoor.GiMarksOf1.C ((Go.Proofs.YtgimcnpkngpmiaaDoor.PPostmark.Postmark.mk t_18_id t_18_town t_18_kind_ t_18_first t_18_last t_18_lost)) (hf1_0) (gf1_0) _   (Lib.hid Ff1_0__474) qt_24).mono ?_
          rintro e_t_24 wt_24 ⟨rfl, bt_24⟩
          have HBwt_24 := Lib.hid (grown_below HBw_v_20.out bt_24)
          replace Ff1_0__474 := cell_below bt_24 Ff1_0__474
          replace ct_18_0__475 := cell_below bt_24 ct_18_0__475
          replace ct_18_1__476 := cell_below bt_24 ct_18_1__476
          replace ct_18_2__477 := cell_below bt_24 ct_18_2__477
          replace ct_18_3__478 := cell_below bt_24 ct_18_3__478
          replace ct_18_4__479 := cell_below bt_24 ct_18_4__479
          replace ct_18_5__480 := cell_below bt_24 ct_18_5__480
          replace kv_20_0 := cell_below bt_24 kv_20_0
          replace kv_20_1 := cell_below bt_24 kv_20_1
          replace kv_20_2 := cell_below bt_24 kv_20_2
          replace kv_20_3 := cell_below bt_24 kv_20_3
          replace kv_20_4 := cell_below bt_24 kv_20_4
          replace kv_20_5 := cell_below bt_24 kv_20_5
          replace Os_0l0 := Lib.hid (own_below Os_0l0.out bt_24)
          clear bt_24
          cases t_24 with
          | false =>
            replace H := let_hid H
            obtain ⟨t_25, ht_25, H⟩ := H
            obtain rfl : t_25 = true := ht_25.symm
            replace H := ite_t H
            replace H := idx_hid H
            obtain ⟨nt_29, yt_29, et_29, lt_29, gt_29, H⟩ := H
            subst et_29
            obtain ⟨t_29_id, t_29_town, t_29_kind_, t_29_first, t_29_last, t_29_lost⟩ := yt_29
            replace H := unPostmark_hid H
            have hqt_29 := hns_0l0.out
            obtain ⟨ab_t_29, ao_t_29, zt_29, At_29, z_t_29, ct_29_0, ct_29_1, ct_29_2, ct_29_3, ct_29_4, ct_29_5⟩ := Go.Proofs.YtgimcnpkngpmiaaDoor.OPostmark.at_ (own_cells Os_0l0.out) (k := nt_29) (by omega)
            obtain rfl := Option.some.inj (gt_29.out.symm.trans z_t_29)
            simp only [Option.some.injEq, Addr.mk.injEq] at At_29
            obtain ⟨rfl, rfl, _⟩ := At_29
            clear z_t_29
            simp only [Nat.zero_add] at ct_29_0 ct_29_1 ct_29_2 ct_29_3 ct_29_4 ct_29_5
            have b0t_29 : (0 : Int) ≤ (nt_29 : Int) := by omega
            have b1t_29 : (nt_29 : Int) < ((s_0.length : Nat) : Int) := by omega
            have b2t_29 : ((nt_29 : Int)).toNat = nt_29 := by omega
            clear hqt_29
            replace H := let_hid H
            obtain ⟨l30_30, hl30_30, H⟩ := H
            try simp only [Int.toNat_natCast] at hl30_30
            obtain ⟨wl30_30, hwl30_30⟩ : ∃ x, ((((((wt_24).setCell ⟨qt_18, nt_29 * 6, none⟩ (.int .i64 t_18_id)).setCell ⟨qt_18, nt_29 * 6 + 1, none⟩ (.string t_18_town)).setCell ⟨qt_18, nt_29 * 6 + 2, none⟩ (.int .i64 t_18_kind_)).setCell ⟨qt_18, nt_29 * 6 + 3, none⟩ (.int .i64 t_18_first)).setCell ⟨qt_18, nt_29 * 6 + 4, none⟩ (.int .i64 t_18_last)).setCell ⟨qt_18, nt_29 * 6 + 5, none⟩ (.string t_18_lost) = x := ⟨_, rfl⟩
            have z0l30_30 := Os_0l0.out.frozenAt (nt_29 * 6)
            have z1l30_30 := Os_0l0.out.frozenAt (nt_29 * 6 + 1)
            have z2l30_30 := Os_0l0.out.frozenAt (nt_29 * 6 + 2)
            have z3l30_30 := Os_0l0.out.frozenAt (nt_29 * 6 + 3)
            have z4l30_30 := Os_0l0.out.frozenAt (nt_29 * 6 + 4)
            have z5l30_30 := Os_0l0.out.frozenAt (nt_29 * 6 + 5)
            have Sl30_30 := Lib.hid (own_stores [(nt_29 * 6, .int .i64 t_18_id), (nt_29 * 6 + 1, .string t_18_town), (nt_29 * 6 + 2, .int .i64 t_18_kind_), (nt_29 * 6 + 3, .int .i64 t_18_first), (nt_29 * 6 + 4, .int .i64 t_18_last), (nt_29 * 6 + 5, .string t_18_lost)] Os_0l0.out)
            have nl30_30 : Hid (l30_30.length = s_0.length) := Lib.hid (by rw [← hl30_30, List.length_set]; exact hns_0l0.out)
            have Pl30_30 : Hid (wl30_30.ownsRow b0 39 6 (.slice (some ⟨qt_18, 0, none⟩) s_0.length c0) s_0.length (Go.Proofs.YtgimcnpkngpmiaaDoor.PPostmark.flat l30_30)) := Lib.hid (by have es_ := set_self gt_29.out; have e0_ := flat_set Go.Proofs.YtgimcnpkngpmiaaDoor.PPostmark.Postmark.cells 6 (fun _ => rfl) s_0l0 (nt_29) 0 (Go.Proofs.YtgimcnpkngpmiaaDoor.PPostmark.Postmark.mk t_29_id t_29_town t_29_kind_ t_29_first t_29_last t_29_lost) (Go.Proofs.YtgimcnpkngpmiaaDoor.PPostmark.Postmark.mk t_18_id t_29_town t_29_kind_ t_29_first t_29_last t_29_lost) (.int .i64 t_18_id) lt_29 (by decide) rfl; have e1_ := flat_set Go.Proofs.YtgimcnpkngpmiaaDoor.PPostmark.Postmark.cells 6 (fun _ => rfl) s_0l0 (nt_29) 1 (Go.Proofs.YtgimcnpkngpmiaaDoor.PPostmark.Postmark.mk t_18_id t_29_town t_29_kind_ t_29_first t_29_last t_29_lost) (Go.Proofs.YtgimcnpkngpmiaaDoor.PPostmark.Postmark.mk t_18_id t_18_town t_29_kind_ t_29_first t_29_last t_29_lost) (.string t_18_town) lt_29 (by decide) rfl; have e2_ := flat_set Go.Proofs.YtgimcnpkngpmiaaDoor.PPostmark.Postmark.cells 6 (fun _ => rfl) s_0l0 (nt_29) 2 (Go.Proofs.YtgimcnpkngpmiaaDoor.PPostmark.Postmark.mk t_18_id t_18_town t_29_kind_ t_29_first t_29_last t_29_lost) (Go.Proofs.YtgimcnpkngpmiaaDoor.PPostmark.Postmark.mk t_18_id t_18_town t_18_kind_ t_29_first t_29_last t_29_lost) (.int .i64 t_18_kind_) lt_29 (by decide) rfl; have e3_ := flat_set Go.Proofs.YtgimcnpkngpmiaaDoor.PPostmark.Postmark.cells 6 (fun _ => rfl) s_0l0 (nt_29) 3 (Go.Proofs.YtgimcnpkngpmiaaDoor.PPostmark.Postmark.mk t_18_id t_18_town t_18_kind_ t_29_first t_29_last t_29_lost) (Go.Proofs.YtgimcnpkngpmiaaDoor.PPostmark.Postmark.mk t_18_id t_18_town t_18_kind_ t_18_first t_29_last t_29_lost) (.int .i64 t_18_first) lt_29 (by decide) rfl; have e4_ := flat_set Go.Proofs.YtgimcnpkngpmiaaDoor.PPostmark.Postmark.cells 6 (fun _ => rfl) s_0l0 (nt_29) 4 (Go.Proofs.YtgimcnpkngpmiaaDoor.PPostmark.Postmark.mk t_18_id t_18_town t_18_kind_ t_18_first t_29_last t_29_lost) (Go.Proofs.YtgimcnpkngpmiaaDoor.PPostmark.Postmark.mk t_18_id t_18_town t_18_kind_ t_18_first t_18_last t_29_lost) (.int .i64 t_18_last) lt_29 (by decide) rfl; have e5_ := flat_set Go.Proofs.YtgimcnpkngpmiaaDoor.PPostmark.Postmark.cells 6 (fun _ => rfl) s_0l0 (nt_29) 5 (Go.Proofs.YtgimcnpkngpmiaaDoor.PPostmark.Postmark.mk t_18_id t_18_town t_18_kind_ t_18_first t_18_last t_29_lost) (Go.Proofs.YtgimcnpkngpmiaaDoor.PPostmark.Postmark.mk t_18_id t_18_town t_18_kind_ t_18_first t_18_last t_18_lost) (.string t_18_lost) lt_29 (by decide) rfl; rw [es_] at e0_; have e_ : ([(nt_29 * 6, .int .i64 t_18_id), (nt_29 * 6 + 1, .string t_18_town), (nt_29 * 6 + 2, .int .i64 t_18_kind_), (nt_29 * 6 + 3, .int .i64 t_18_first), (nt_29 * 6 + 4, .int .i64 t_18_last), (nt_29 * 6 + 5, .string t_18_lost)] : List (Nat × Value)).foldl (fun xs p => xs.set p.1 p.2) (Go.Proofs.YtgimcnpkngpmiaaDoor.PPostmark.flat s_0l0) = (Go.Proofs.YtgimcnpkngpmiaaDoor.PPostmark.flat l30_30) := (by rw [← hl30_30]; show _ = List.flatMap Go.Proofs.YtgimcnpkngpmiaaDoor.PPostmark.Postmark.cells _; first | (rw [← e5_, ← e4_, ← e3_, ← e2_, ← e1_, ← e0_]; first | done | rfl) | (rw [← e5_, ← e4_, ← e3_, ← e2_, ← e1_, es_, ← e0_]; first | done | rfl)); rw [← hwl30_30, ← e_]; exact Sl30_30.out.1)
            have Gl30_30 : Hid (wt_24.grownBy wl30_30 (Value.slice (some ⟨qt_18, 0, none⟩) s_0.length c0).ownBlock) := Lib.hid (by rw [← hwl30_30]; exact Sl30_30.out.2)
            have HBwl30_30 := Lib.hid (Aid.grown_tr HBwt_24.out Gl30_30.out)
            have hhl30_30 := Lib.hid hl30_30
            clear hl30_30 Sl30_30
            have Ff1_0__481 := cell_other Ff1_0__474 Gl30_30.out XHgf1_0.out
            have kv_20_0__482 := cell_other kv_20_0 Gl30_30.out (Apart.symm Dv_20_s_0l0.out)
            have kv_20_1__483 := cell_other kv_20_1 Gl30_30.out (Apart.symm Dv_20_s_0l0.out)
            have kv_20_2__484 := cell_other kv_20_2 Gl30_30.out (Apart.symm Dv_20_s_0l0.out)
            have kv_20_3__485 := cell_other kv_20_3 Gl30_30.out (Apart.symm Dv_20_s_0l0.out)
            have kv_20_4__486 := cell_other kv_20_4 Gl30_30.out (Apart.symm Dv_20_s_0l0.out)
            have kv_20_5__487 := cell_other kv_20_5 Gl30_30.out (Apart.symm Dv_20_s_0l0.out)
            clear Os_0l0 Gl30_30
            replace H := let_hid H
            obtain ⟨t_32, ht_32, H⟩ := H
            replace H := let_hid H
            obtain ⟨t_35, ht_35, H⟩ := H
            replace H := app_hid H
            go_wp2_with fail
            clear z0l30_30 z1l30_30 z2l30_30 z3l30_30 z4l30_30 z5l30_30 Ff1_0__474 ct_18_0__475 ct_18_1__476 ct_18_2__477 ct_18_3__478 ct_18_4__479 ct_18_5__480 kv_20_0 kv_20_1 kv_20_2 kv_20_3 kv_20_4 kv_20_5 ct_29_0 ct_29_1 ct_29_2 ct_29_3 ct_29_4 ct_29_5
            go_roundg m0
            case measure => omega
            case rel => exact ⟨_, _, _, rfl, rfl, H, HBwl30_30, Ff1_0__481, Pl30_30, Lib.hid (nl30_30.out)⟩
          | true =>
            replace H := let_hid H
            obtain ⟨t_25, ht_25, H⟩ := H
            obtain rfl : t_25 = false := ht_25.symm
            replace H := ite_f H
            replace H := let_hid H
            obtain ⟨t_35, ht_35, H⟩ := H
            replace H := app_hid H
            go_wp2_with fail
            go_roundg m0
            case measure => omega
            case rel => exact ⟨_, _, _, rfl, rfl, H, HBwt_24, Ff1_0__474, Os_0l0, Lib.hid (hns_0l0.out)⟩
  | true =>
    replace H := ite_t H
    obtain rfl := ret_hid H
    go_wp2_with fail
    go_ret
    exact ⟨A0, c0, rfl, M0.out, HBwt_3.out, Go.Proofs.YtgimcnpkngpmiaaDoor.GoK.from_self⟩
end Go.Proofs.YtgimcnpkngpmiaaDoor.GxSlicesDeleteFuncLoopExampleG01062ImplPostmarkLoopExampleG01062ImplPostmarkiMarksOf1

/- loop.example/g01062/impl.marksOf as a plain function, and the contract of the program's: where the plain one has an answer, the program has it. Conditions: slices read as lists. -/
namespace Go.Proofs.YtgimcnpkngpmiaaDoor.GiMarksOf
set_option linter.unusedVariables false
set_option linter.unusedSimpArgs false
open Go.RowKit
open Go.Proofs.YtgimcnpkngpmiaaDoor.Rowed Go.Proofs.YtgimcnpkngpmiaaDoor.Turn Go.Proofs.YtgimcnpkngpmiaaDoor.Aid Go.Proofs.YtgimcnpkngpmiaaDoor.GoP Go.Proofs.YtgimcnpkngpmiaaDoor.GoM

def P (fuel : Nat) (list : (List Go.Proofs.YtgimcnpkngpmiaaDoor.PPostmark.Postmark)) (town : ByteArray) : Option ((List Go.Proofs.YtgimcnpkngpmiaaDoor.PPostmark.Postmark)) :=
  Option.bind (Go.Proofs.YtgimcnpkngpmiaaDoor.GiArePostmarks.P list) fun (t_3 : Bool) =>
  letK (!t_3) fun (t_4 : Bool) =>
  iteK t_4
  (some ([] : List Go.Proofs.YtgimcnpkngpmiaaDoor.PPostmark.Postmark))
  (Option.bind (Go.Proofs.YtgimcnpkngpmiaaDoor.GxSlicesCloneLoopExampleG01062ImplPostmarkLoopExampleG01062ImplPostmark.P list) fun (t_8 : (List Go.Proofs.YtgimcnpkngpmiaaDoor.PPostmark.Postmark)) =>
  Option.bind (Go.Proofs.YtgimcnpkngpmiaaDoor.GxSlicesDeleteFuncLoopExampleG01062ImplPostmarkLoopExampleG01062ImplPostmarkiMarksOf1.P fuel t_8 town) fun (t_10 : (List Go.Proofs.YtgimcnpkngpmiaaDoor.PPostmark.Postmark)) =>
  some t_10)

set_option maxRecDepth 100000 in
set_option maxHeartbeats 2000000 in
theorem C (fuel : Nat) (list : (List Go.Proofs.YtgimcnpkngpmiaaDoor.PPostmark.Postmark)) (town : ByteArray) (A0 : Option Addr) (c0 : Nat)  (w : World) (M0 : Hid (Cells w 6 A0 list.length (Go.Proofs.YtgimcnpkngpmiaaDoor.PPostmark.flat list))) (N0 : Hid (list.length ≤ 9223372036854775807)) (Q0 : Hid (Room A0 list.length c0))  {r : (List Go.Proofs.YtgimcnpkngpmiaaDoor.PPostmark.Postmark)} (H : Hid (P fuel list town = some r)) :
    Calls Tryd.prog 71 #[.slice A0 list.length c0, .string town] w (fun e w' => ∃ A_r c_r, e = .returned (.slice A_r r.length c_r) ∧ w'.ownsRow w.heap.size 39 6 (.slice A_r r.length c_r) r.length (Go.Proofs.YtgimcnpkngpmiaaDoor.PPostmark.flat r) ∧ Below w.heap.size w w') := by
  have HB := Lib.hid (Below.refl w.heap.size w)
  unfold P at H
  have N0o := N0.out
  go_enter Tryd.func71, Tryd.ntmps71
  obtain ⟨w_town_0, hw_town_0⟩ : ∃ x, w.alloc (.cells #[.string town] 9) = x := ⟨_, rfl⟩
  have bw_town_0 : Below w.heap.size w w_town_0 := by rw [← hw_town_0]; exact (Below.refl _ _).alloc (Nat.le_refl _) _
  have HBw_town_0 := Lib.hid (Below.step HB.out bw_town_0)
  clear bw_town_0
  have ktown_0_0 : w_town_0.cell? ⟨w.heap.size, 0, none⟩ = some (.string town) := by rw [← hw_town_0]; exact box_new _ _ _ 0 _ rfl
  replace H := bind_hid H
  obtain ⟨t_3, qt_3, H⟩ := H
  go_wp2_with fail
  go_at_call 38
  refine (Go.Proofs.YtgimcnpkngpmiaaDoor.GiArePostmarks.C (list) A0 c0 _   (Lib.hid (Cells.below M0.out HBw_town_0.out)) N0 qt_3).mono ?_
  rintro e_t_3 wt_3 ⟨rfl, bt_3⟩
  have HBwt_3 := Lib.hid (Below.step HBw_town_0.out bt_3)
  replace ktown_0_0 := cell_below bt_3 ktown_0_0
  clear bt_3
  cases t_3 with
  | false =>
    replace H := let_hid H
    obtain ⟨t_4, ht_4, H⟩ := H
    obtain rfl : t_4 = true := ht_4.symm
    replace H := ite_t H
    obtain ⟨w_t_5, hw_t_5⟩ : ∃ x, wt_3.alloc (.cells #[] 39) = x := ⟨_, rfl⟩
    have bw_t_5 : Below wt_3.heap.size wt_3 w_t_5 := by rw [← hw_t_5]; exact (Below.refl _ _).alloc (Nat.le_refl _) _
    have Ot_5 : Hid (w_t_5.ownsRow w.heap.size 39 6 (.slice (some ⟨wt_3.heap.size, 0, none⟩) 0 0) 0 []) := Lib.hid (by rw [← hw_t_5]; exact own_empty HBwt_3.out.size)
    have Dt_5_town_0 := Lib.hid (apart_box ktown_0_0)
    have HBw_t_5 := Lib.hid (Below.step HBwt_3.out bw_t_5)
    have ktown_0_0__488 := cell_below bw_t_5 ktown_0_0
    clear bw_t_5
    obtain rfl := ret_hid H
    go_wp2_with fail
    go_ret
    exact ⟨(some ⟨wt_3.heap.size, 0, none⟩), 0, rfl, Ot_5.out, HBw_t_5.out⟩
  | true =>
    replace H := let_hid H
    obtain ⟨t_4, ht_4, H⟩ := H
    obtain rfl : t_4 = false := ht_4.symm
    replace H := ite_f H
    replace H := bind_hid H
    obtain ⟨t_8, qt_8, H⟩ := H
    go_wp2_with fail
    go_at_call 65
    refine (Go.Proofs.YtgimcnpkngpmiaaDoor.GxSlicesCloneLoopExampleG01062ImplPostmarkLoopExampleG01062ImplPostmark.C (list) A0 c0 _   (Lib.hid (Cells.below M0.out HBwt_3.out)) N0 Q0 qt_8).mono ?_
    rintro e_t_8 wt_8 ⟨At_8, ct_8, rfl, ot_8, bt_8⟩
    have Dt_8_town_0 := Lib.hid (apart_callbox ot_8 ktown_0_0)
    have Ot_8 := Lib.hid (own_lower ot_8 HBwt_3.out.size)
    clear ot_8
    have HBwt_8 := Lib.hid (Below.step HBwt_3.out bt_8)
    replace ktown_0_0 := cell_below bt_8 ktown_0_0
    clear bt_8
    replace H := bind_hid H
    obtain ⟨t_10, qt_10, H⟩ := H
    go_wp2_with fail
    go_at_call 87
    refine (Go.Proofs.YtgimcnpkngpmiaaDoor.GxSlicesDeleteFuncLoopExampleG01062ImplPostmarkLoopExampleG01062ImplPostmarkiMarksOf1.C fuel (t_8) (town) At_8 ct_8 (w.heap.size) w.heap.size _   Ot_8 (Lib.hid (own_max Ot_8.out)) (Lib.hid ktown_0_0) (Lib.hid HBwt_8.out.size) (Lib.hid Dt_8_town_0.out) qt_10).mono ?_
    rintro e_t_10 wt_10 ⟨At_10, ct_10, rfl, ot_10, gt_10, yt_10⟩
    have Pt_10 := Lib.hid ot_10
    have Gt_10 := Lib.hid gt_10
    replace yt_10 := Lib.hid yt_10
    clear ot_10 gt_10
    have HBwt_10 := Lib.hid (HBwt_8.out.grown Gt_10.out HBwt_8.out.size (fun q hq => (Ot_8.out.lt q hq).1))
    have Dt_10_town_0 : Hid (Apart At_10 _) := Lib.hid (Go.Proofs.YtgimcnpkngpmiaaDoor.GoK.apart_from Dt_8_town_0.out (fun a_ ha_ => by cases ha_; exact cell_lt ktown_0_0) yt_10.out)
    replace ktown_0_0 := cell_other ktown_0_0 Gt_10.out Dt_8_town_0.out
    clear Ot_8 Gt_10 yt_10
    obtain rfl := ret_hid H
    go_wp2_with fail
    go_ret
    exact ⟨At_10, ct_10, rfl, Pt_10.out, HBwt_10.out⟩
end Go.Proofs.YtgimcnpkngpmiaaDoor.GiMarksOf

/- cmp.isNaN[int] as a plain function, and the contract of the program's: where the plain one has an answer, the program has it. Conditions: slices read as lists. -/
namespace Go.Proofs.YtgimcnpkngpmiaaDoor.GxCmpIsNaNInt
set_option linter.unusedVariables false
set_option linter.unusedSimpArgs false
open Go.RowKit
open Go.Proofs.YtgimcnpkngpmiaaDoor.Rowed Go.Proofs.YtgimcnpkngpmiaaDoor.Turn Go.Proofs.YtgimcnpkngpmiaaDoor.Aid Go.Proofs.YtgimcnpkngpmiaaDoor.GoP Go.Proofs.YtgimcnpkngpmiaaDoor.GoM

def P (x : Int) : Option (Bool) :=
  some false

set_option maxRecDepth 100000 in
set_option maxHeartbeats 2000000 in
theorem C (x : Int)   (w : World)   {r : Bool} (H : Hid (P x = some r)) :
    Calls Tryd.prog 89 #[.int .i64 x] w (Gives (.bool r) w) := by
  have HB := Lib.hid (Below.refl w.heap.size w)
  unfold P at H
  go_enter Tryd.func89, Tryd.ntmps89
  obtain rfl := ret_hid H
  go_wp2_with fail
  go_ret
  exact ⟨rfl, HB.out⟩

set_option maxRecDepth 100000 in
set_option maxHeartbeats 2000000 in
theorem C0 (x : Int)   (w : World)   {r : Bool} (H : Hid (P x = some r)) :
    Calls Tryd.prog 89 #[.int .i64 x] w (fun e w'' => e = .returned (.bool r) ∧ w'' = w) := by
  have HB := Lib.hid (Below.refl w.heap.size w)
  unfold P at H
  go_enter Tryd.func89, Tryd.ntmps89
  obtain rfl := ret_hid H
  go_wp2_with fail
  go_ret
  exact ⟨rfl, rfl⟩
end Go.Proofs.YtgimcnpkngpmiaaDoor.GxCmpIsNaNInt

/- cmp.Compare[int] as a plain function, and the contract of the program's: where the plain one has an answer, the program has it. Conditions: slices read as lists. -/
namespace Go.Proofs.YtgimcnpkngpmiaaDoor.GxCmpCompareInt
set_option linter.unusedVariables false
set_option linter.unusedSimpArgs false
open Go.RowKit
open Go.Proofs.YtgimcnpkngpmiaaDoor.Rowed Go.Proofs.YtgimcnpkngpmiaaDoor.Turn Go.Proofs.YtgimcnpkngpmiaaDoor.Aid Go.Proofs.YtgimcnpkngpmiaaDoor.GoP Go.Proofs.YtgimcnpkngpmiaaDoor.GoM

def P (x : Int) (y : Int) : Option (Int) :=
  Option.bind (Go.Proofs.YtgimcnpkngpmiaaDoor.GxCmpIsNaNInt.P x) fun (t_2 : Bool) =>
  Option.bind (Go.Proofs.YtgimcnpkngpmiaaDoor.GxCmpIsNaNInt.P y) fun (t_5 : Bool) =>
  iteK t_2
  (iteK t_5
  (some 0)
  (some (-1)))
  (iteK t_5
  (some 1)
  (letK (decide (x < y)) fun (t_15 : Bool) =>
  iteK t_15
  (some (-1))
  (letK (decide (y < x)) fun (t_19 : Bool) =>
  iteK t_19
  (some 1)
  (some 0))))

set_option maxRecDepth 100000 in
set_option maxHeartbeats 2000000 in
theorem C (x : Int) (y : Int)   (w : World)   {r : Int} (H : Hid (P x y = some r)) :
    Calls Tryd.prog 74 #[.int .i64 x, .int .i64 y] w (Gives (.int .i64 r) w) := by
  have HB := Lib.hid (Below.refl w.heap.size w)
  unfold P at H
  go_enter Tryd.func74, Tryd.ntmps74
  replace H := bind_hid H
  obtain ⟨t_2, qt_2, H⟩ := H
  go_wp2_with fail
  go_at_call 89
  refine (Go.Proofs.YtgimcnpkngpmiaaDoor.GxCmpIsNaNInt.C (x)  _    qt_2).mono ?_
  rintro e_t_2 wt_2 ⟨rfl, bt_2⟩
  have HBwt_2 := Lib.hid (Below.step HB.out bt_2)
  clear bt_2
  replace H := bind_hid H
  obtain ⟨t_5, qt_5, H⟩ := H
  go_wp2_with fail
  go_at_call 89
  refine (Go.Proofs.YtgimcnpkngpmiaaDoor.GxCmpIsNaNInt.C (y)  _    qt_5).mono ?_
  rintro e_t_5 wt_5 ⟨rfl, bt_5⟩
  have HBwt_5 := Lib.hid (Below.step HBwt_2.out bt_5)
  clear bt_5
  cases t_2 with
  | false =>
    replace H := ite_f H
    cases t_5 with
    | false =>
      replace H := ite_f H
      replace H := let_hid H
      obtain ⟨t_15, ht_15, H⟩ := H
      cases t_15 with
      | false =>
        replace H := ite_f H
        replace H := let_hid H
        obtain ⟨t_19, ht_19, H⟩ := H
        cases t_19 with
        | false =>
          replace H := ite_f H
          obtain rfl := ret_hid H
          go_wp2_with fail
          go_ret
          exact ⟨rfl, HBwt_5.out⟩
        | true =>
          replace H := ite_t H
          obtain rfl := ret_hid H
          go_wp2_with fail
          go_ret
          exact ⟨rfl, HBwt_5.out⟩
      | true =>
        replace H := ite_t H
        obtain rfl := ret_hid H
        go_wp2_with fail
        go_ret
        exact ⟨rfl, HBwt_5.out⟩
    | true =>
      replace H := ite_t H
      obtain rfl := ret_hid H
      go_wp2_with fail
      go_ret
      exact ⟨rfl, HBwt_5.out⟩
  | true =>
    replace H := ite_t H
    cases t_5 with
    | false =>
      replace H := ite_f H
      obtain rfl := ret_hid H
      go_wp2_with fail
      go_ret
      exact ⟨rfl, HBwt_5.out⟩
    | true =>
      replace H := ite_t H
      obtain rfl := ret_hid H
      go_wp2_with fail
      go_ret
      exact ⟨rfl, HBwt_5.out⟩
end Go.Proofs.YtgimcnpkngpmiaaDoor.GxCmpCompareInt

/- loop.example/g01062/impl.LatestUse$1 as a plain function, and the contract of the program's: where the plain one has an answer, the program has it. Conditions: slices read as lists. -/
namespace Go.Proofs.YtgimcnpkngpmiaaDoor.GiLatestUse1
set_option linter.unusedVariables false
set_option linter.unusedSimpArgs false
open Go.RowKit
open Go.Proofs.YtgimcnpkngpmiaaDoor.Rowed Go.Proofs.YtgimcnpkngpmiaaDoor.Turn Go.Proofs.YtgimcnpkngpmiaaDoor.Aid Go.Proofs.YtgimcnpkngpmiaaDoor.GoP Go.Proofs.YtgimcnpkngpmiaaDoor.GoM

def P (p : Go.Proofs.YtgimcnpkngpmiaaDoor.PPostmark.Postmark) (q : Go.Proofs.YtgimcnpkngpmiaaDoor.PPostmark.Postmark) : Option (Int) :=
  unPostmark p fun (p_id : Int) (p_town : ByteArray) (p_kind_ : Int) (p_first : Int) (p_last : Int) (p_lost : ByteArray) =>
  unPostmark q fun (q_id : Int) (q_town : ByteArray) (q_kind_ : Int) (q_first : Int) (q_last : Int) (q_lost : ByteArray) =>
  Option.bind (Go.Proofs.YtgimcnpkngpmiaaDoor.GxCmpCompareInt.P p_last q_last) fun (t_7 : Int) =>
  some t_7

set_option maxRecDepth 100000 in
set_option maxHeartbeats 2000000 in
theorem C (p : Go.Proofs.YtgimcnpkngpmiaaDoor.PPostmark.Postmark) (q : Go.Proofs.YtgimcnpkngpmiaaDoor.PPostmark.Postmark)   (w : World)   {r : Int} (H : Hid (P p q = some r)) :
    Calls Tryd.prog 73 #[p.val, q.val] w (Gives (.int .i64 r) w) := by
  have HB := Lib.hid (Below.refl w.heap.size w)
  unfold P at H
  obtain ⟨p_id, p_town, p_kind_, p_first, p_last, p_lost⟩ := p
  replace H := unPostmark_hid H
  obtain ⟨q_id, q_town, q_kind_, q_first, q_last, q_lost⟩ := q
  replace H := unPostmark_hid H
  unfold Go.Proofs.YtgimcnpkngpmiaaDoor.PPostmark.Postmark.val
  go_enter Tryd.func73, Tryd.ntmps73
  obtain ⟨w_p_0, hw_p_0⟩ : ∃ x, w.alloc (.cells #[.int .i64 p_id, .string p_town, .int .i64 p_kind_, .int .i64 p_first, .int .i64 p_last, .string p_lost] 39) = x := ⟨_, rfl⟩
  have bw_p_0 : Below w.heap.size w w_p_0 := by rw [← hw_p_0]; exact (Below.refl _ _).alloc (Nat.le_refl _) _
  have HBw_p_0 := Lib.hid (Below.step HB.out bw_p_0)
  clear bw_p_0
  have kp_0_0 : w_p_0.cell? ⟨w.heap.size, 0, none⟩ = some (.int .i64 p_id) := by rw [← hw_p_0]; exact box_new _ _ _ 0 _ rfl
  have kp_0_1 : w_p_0.cell? ⟨w.heap.size, 1, none⟩ = some (.string p_town) := by rw [← hw_p_0]; exact box_new _ _ _ 1 _ rfl
  have kp_0_2 : w_p_0.cell? ⟨w.heap.size, 2, none⟩ = some (.int .i64 p_kind_) := by rw [← hw_p_0]; exact box_new _ _ _ 2 _ rfl
  have kp_0_3 : w_p_0.cell? ⟨w.heap.size, 3, none⟩ = some (.int .i64 p_first) := by rw [← hw_p_0]; exact box_new _ _ _ 3 _ rfl
  have kp_0_4 : w_p_0.cell? ⟨w.heap.size, 4, none⟩ = some (.int .i64 p_last) := by rw [← hw_p_0]; exact box_new _ _ _ 4 _ rfl
  have kp_0_5 : w_p_0.cell? ⟨w.heap.size, 5, none⟩ = some (.string p_lost) := by rw [← hw_p_0]; exact box_new _ _ _ 5 _ rfl
  obtain ⟨w_q_1, hw_q_1⟩ : ∃ x, w_p_0.alloc (.cells #[.int .i64 q_id, .string q_town, .int .i64 q_kind_, .int .i64 q_first, .int .i64 q_last, .string q_lost] 39) = x := ⟨_, rfl⟩
  have bw_q_1 : Below w_p_0.heap.size w_p_0 w_q_1 := by rw [← hw_q_1]; exact (Below.refl _ _).alloc (Nat.le_refl _) _
  have HBw_q_1 := Lib.hid (Below.step HBw_p_0.out bw_q_1)
  have kp_0_0__489 := cell_below bw_q_1 kp_0_0
  have kp_0_1__490 := cell_below bw_q_1 kp_0_1
  have kp_0_2__491 := cell_below bw_q_1 kp_0_2
  have kp_0_3__492 := cell_below bw_q_1 kp_0_3
  have kp_0_4__493 := cell_below bw_q_1 kp_0_4
  have kp_0_5__494 := cell_below bw_q_1 kp_0_5
  clear bw_q_1
  have kq_1_0 : w_q_1.cell? ⟨w_p_0.heap.size, 0, none⟩ = some (.int .i64 q_id) := by rw [← hw_q_1]; exact box_new _ _ _ 0 _ rfl
  have kq_1_1 : w_q_1.cell? ⟨w_p_0.heap.size, 1, none⟩ = some (.string q_town) := by rw [← hw_q_1]; exact box_new _ _ _ 1 _ rfl
  have kq_1_2 : w_q_1.cell? ⟨w_p_0.heap.size, 2, none⟩ = some (.int .i64 q_kind_) := by rw [← hw_q_1]; exact box_new _ _ _ 2 _ rfl
  have kq_1_3 : w_q_1.cell? ⟨w_p_0.heap.size, 3, none⟩ = some (.int .i64 q_first) := by rw [← hw_q_1]; exact box_new _ _ _ 3 _ rfl
  have kq_1_4 : w_q_1.cell? ⟨w_p_0.heap.size, 4, none⟩ = some (.int .i64 q_last) := by rw [← hw_q_1]; exact box_new _ _ _ 4 _ rfl
  have kq_1_5 : w_q_1.cell? ⟨w_p_0.heap.size, 5, none⟩ = some (.string q_lost) := by rw [← hw_q_1]; exact box_new _ _ _ 5 _ rfl
  replace H := bind_hid H
  obtain ⟨t_7, qt_7, H⟩ := H
  go_wp2_with fail
  clear kp_0_0 kp_0_1 kp_0_2 kp_0_3 kp_0_4 kp_0_5
  go_at_call 74
  refine (Go.Proofs.YtgimcnpkngpmiaaDoor.GxCmpCompareInt.C (p_last) (q_last)  _    qt_7).mono ?_
  rintro e_t_7 wt_7 ⟨rfl, bt_7⟩
  have HBwt_7 := Lib.hid (Below.step HBw_q_1.out bt_7)
  replace kp_0_0__489 := cell_below bt_7 kp_0_0__489
  replace kp_0_1__490 := cell_below bt_7 kp_0_1__490
  replace kp_0_2__491 := cell_below bt_7 kp_0_2__491
  replace kp_0_3__492 := cell_below bt_7 kp_0_3__492
  replace kp_0_4__493 := cell_below bt_7 kp_0_4__493
  replace kp_0_5__494 := cell_below bt_7 kp_0_5__494
  replace kq_1_0 := cell_below bt_7 kq_1_0
  replace kq_1_1 := cell_below bt_7 kq_1_1
  replace kq_1_2 := cell_below bt_7 kq_1_2
  replace kq_1_3 := cell_below bt_7 kq_1_3
  replace kq_1_4 := cell_below bt_7 kq_1_4
  replace kq_1_5 := cell_below bt_7 kq_1_5
  clear bt_7
  obtain rfl := ret_hid H
  go_wp2_with fail
  go_ret
  exact ⟨rfl, HBwt_7.out⟩
end Go.Proofs.YtgimcnpkngpmiaaDoor.GiLatestUse1

