/- loop.example/g01062/impl.NearestPaper as a plain function, and the contract of the program's: where the plain one has an answer, the program has it. Conditions: slices read as lists. -/
import Derived.Test.YtdgbigkcophjoaaChecked
import Derived.Test.YtdgbigkcophjoaaGoM
import Derived.Test.YtdgbigkcophjoaaGoRPaper
import Derived.Test.YtdgbigkcophjoaaOPaper
import Derived.Test.YtdgbigkcophjoaaGiArePapers
import Derived.Test.YtdgbigkcophjoaaGiWithin
import Derived.WalkKit
import Derived.WalkSpells
import Derived.WalkLawsBesides
import Derived.BigQuiet
import Derived.OwnWalk
import Derived.Deep.LoopGhost
import Derived.Deep.QuietTactic
import Derived.IntWalk
import Derived.Lib.QuietBelow
namespace Go.Proofs.Ytdgbigkcophjoaa.GiNearestPaper
set_option linter.unusedVariables false
set_option linter.unusedSimpArgs false
open Go.RowKit
open Go.Proofs.Ytdgbigkcophjoaa.Rowed Go.Proofs.Ytdgbigkcophjoaa.Turn Go.Proofs.Ytdgbigkcophjoaa.Aid Go.Proofs.Ytdgbigkcophjoaa.GoP Go.Proofs.Ytdgbigkcophjoaa.GoM

def l0 (list : (List Go.Proofs.Ytdgbigkcophjoaa.PPaper.Paper)) (thick : Int) (k0 : Nat) (s : Int × Int) (nx0 bk0 : Int × Int → Option (Int × Int × Bool)) : Option (Int × Int × Bool) :=
  unp2 s fun id_7l0 least_8l0 =>
  Option.bind (idx list (k0 : Int)) fun (yt_25 : Go.Proofs.Ytdgbigkcophjoaa.PPaper.Paper) =>
  unPaper yt_25 fun (t_25_id : Int) (t_25_thick : Int) (t_25_tint : Int) (t_25_mark : ByteArray) (t_25_laid : Bool) =>
  letK (IntKind.i64.wrap (t_25_thick - thick)) fun (t_32 : Int) =>
  letK (IntKind.i64.wrap (thick - t_25_thick)) fun (t_36 : Int) =>
  letK (max t_32 t_36) fun (t_37 : Int) =>
  letK (decide (t_37 < least_8l0)) fun (t_41 : Bool) =>
  iteK t_41
  (appK nx0 (t_25_id, t_37))
  (appK nx0 (id_7l0, least_8l0))

def e0  (s : Int × Int) : Option (Int × Int × Bool) :=
  unp2 s fun id_7l0 least_8l0 =>
  some (id_7l0, least_8l0, true)

def P (list : (List Go.Proofs.Ytdgbigkcophjoaa.PPaper.Paper)) (thick : Int) : Option (Int × Int × Bool) :=
  letK ((list.length : Int) == 0) fun (t_5 : Bool) =>
  joinK (fun (t_10 : Bool) =>
  joinK (fun (t_15 : Bool) =>
  iteK t_15
  (some (0, 0, false))
  (cntK (l0 list thick) (list.length) 0 (0, 300) (e0 ))) fun jt_15 => iteK t_10 (appK jt_15 true) (Option.bind (Go.Proofs.Ytdgbigkcophjoaa.GiWithin.P thick 1 300) fun (t_13 : Bool) =>
  letK (!t_13) fun (t_14 : Bool) =>
  appK jt_15 t_14)) fun jt_10 => iteK t_5 (appK jt_10 true) (Option.bind (Go.Proofs.Ytdgbigkcophjoaa.GiArePapers.P list) fun (t_8 : Bool) =>
  letK (!t_8) fun (t_9 : Bool) =>
  appK jt_10 t_9)

set_option maxRecDepth 100000 in
set_option maxHeartbeats 2000000 in
theorem C (list : (List Go.Proofs.Ytdgbigkcophjoaa.PPaper.Paper)) (thick : Int) (A0 : Option Addr) (c0 : Nat)  (w : World) (M0 : Hid (Cells w 5 A0 list.length (Go.Proofs.Ytdgbigkcophjoaa.PPaper.flat list))) (N0 : Hid (list.length ≤ 9223372036854775807))  {r0 : Int} {r1 : Int} {r2 : Bool} (H : Hid (P list thick = some (r0, r1, r2))) :
    Calls Try.prog 40 #[.slice A0 list.length c0, .int .i64 thick] w (Gives (.tuple #[.int .i64 r0, .int .i64 r1, .bool r2]) w) := by
  have HB := Lib.hid (Below.refl w.heap.size w)
  unfold P at H
  have N0o := N0.out
  go_enter Try.func40, Try.ntmps40
  replace H := let_hid H
  obtain ⟨t_5, ht_5, H⟩ := H
  replace H := join_hid H
  cases t_5 with
  | false =>
    have nht_5 : ¬ (list.length = 0) := by have := ne_of_beq_false ht_5; omega
    replace H := ite_f H
    replace H := bind_hid H
    obtain ⟨t_8, qt_8, H⟩ := H
    go_wp2_with fail
    go_at_call 37
    refine (Go.Proofs.Ytdgbigkcophjoaa.GiArePapers.C (list) A0 c0 _   (Lib.hid (Cells.below M0.out HB.out)) N0 qt_8).mono ?_
    rintro e_t_8 wt_8 ⟨rfl, bt_8⟩
    have HBwt_8 := Lib.hid (Below.step HB.out bt_8)
    clear bt_8
    cases t_8 with
    | false =>
      replace H := let_hid H
      obtain ⟨t_9, ht_9, H⟩ := H
      obtain rfl : t_9 = true := ht_9.symm
      replace H := app_hid H
      replace H := join_hid H
      replace H := ite_t H
      replace H := app_hid H
      replace H := ite_t H
      cases ret_hid H
      go_wp2_with fail
      go_ret3
      exact ⟨rfl, HBwt_8.out⟩
    | true =>
      replace H := let_hid H
      obtain ⟨t_9, ht_9, H⟩ := H
      obtain rfl : t_9 = false := ht_9.symm
      replace H := app_hid H
      replace H := join_hid H
      replace H := ite_f H
      replace H := bind_hid H
      obtain ⟨t_13, qt_13, H⟩ := H
      go_wp2_with fail
      go_at_call 71
      refine (Go.Proofs.Ytdgbigkcophjoaa.GiWithin.C (thick) (1) (300)  _    qt_13).mono ?_
      rintro e_t_13 wt_13 ⟨rfl, bt_13⟩
      have HBwt_13 := Lib.hid (Below.step HBwt_8.out bt_13)
      clear bt_13
      cases t_13 with
      | false =>
        replace H := let_hid H
        obtain ⟨t_14, ht_14, H⟩ := H
        obtain rfl : t_14 = true := ht_14.symm
        replace H := app_hid H
        replace H := ite_t H
        cases ret_hid H
        go_wp2_with fail
        go_ret3
        exact ⟨rfl, HBwt_13.out⟩
      | true =>
        replace H := let_hid H
        obtain ⟨t_14, ht_14, H⟩ := H
        obtain rfl : t_14 = false := ht_14.symm
        replace H := app_hid H
        replace H := ite_f H
        go_wp2_with fail
        go_loopg [27, 7, 8] (list.length) (fun m_ v27_ v7_ v8_ wr => ∃ (k0 : Nat) (id_7l0 : Int) (least_8l0 : Int), k0 + m_ = list.length ∧ v27_ = .int .i64 (k0 : Int) ∧ v7_ = .int .i64 id_7l0 ∧ v8_ = .int .i64 least_8l0 ∧ Hid (cntK (l0 list thick) m_ k0 (id_7l0, least_8l0) (e0 ) = some (r0, r1, r2)) ∧ Hid (Below w.heap.size w wr))
        case atStart => exact ⟨0, _, _, by omega, rfl, rfl, rfl, H, HBwt_13⟩
        case round =>
          obtain ⟨k0, id_7l0, least_8l0, hkm0, rfl, rfl, rfl, H, HBwr0⟩ := hrel
          rename World => wr0
          cases gk with
          | zero =>
            obtain rfl : k0 = list.length := by omega
            have hc0 : decide (((list.length : Nat) : Int) < ((list.length : Nat) : Int)) = false := by simp
            replace H := cnt_zero H
            unfold e0 at H
            replace H := unp2_hid H
            cases ret_hid H
            go_wp2_with fail
            go_ret3
            exact ⟨rfl, HBwr0.out⟩
          | succ m0 =>
            have hlt0 : k0 < list.length := by omega
            have hc0 : decide ((k0 : Int) < ((list.length : Nat) : Int)) = true := by simp; omega
            replace H := cnt_succ H
            unfold l0 at H
            replace H := unp2_hid H
            replace H := idx_hid H
            obtain ⟨nt_25, yt_25, et_25, lt_25, gt_25, H⟩ := H
            obtain rfl : k0 = nt_25 := by omega
            clear et_25
            obtain ⟨t_25_id, t_25_thick, t_25_tint, t_25_mark, t_25_laid⟩ := yt_25
            replace H := unPaper_hid H
            obtain ⟨ab_t_25, ao_t_25, zt_25, At_25, z_t_25, ct_25_0, ct_25_1, ct_25_2, ct_25_3, ct_25_4⟩ := Go.Proofs.Ytdgbigkcophjoaa.OPaper.at_ M0.out lt_25
            obtain rfl := Option.some.inj (gt_25.out.symm.trans z_t_25)
            subst At_25
            have ltt_25 := cell_lt ct_25_0
            replace ct_25_0 := cell_below HBwr0.out ct_25_0
            replace ct_25_1 := cell_below HBwr0.out ct_25_1
            replace ct_25_2 := cell_below HBwr0.out ct_25_2
            replace ct_25_3 := cell_below HBwr0.out ct_25_3
            replace ct_25_4 := cell_below HBwr0.out ct_25_4
            clear z_t_25
            have b0t_25 : (0 : Int) ≤ (k0 : Int) := by omega
            have b1t_25 : (k0 : Int) < ((list.length : Nat) : Int) := by omega
            have b2t_25 : ((k0 : Int)).toNat = k0 := by omega
            obtain ⟨w_p_27, hw_p_27⟩ : ∃ x, wr0.alloc (.cells #[.int .i64 t_25_id, .int .i64 t_25_thick, .int .i64 t_25_tint, .string t_25_mark, .bool t_25_laid] 90) = x := ⟨_, rfl⟩
            have bw_p_27 : Below wr0.heap.size wr0 w_p_27 := by rw [← hw_p_27]; exact (Below.refl _ _).alloc (Nat.le_refl _) _
            have HBw_p_27 := Lib.hid (Below.step HBwr0.out bw_p_27)
            have ct_25_0__296 := cell_below bw_p_27 ct_25_0
            have ct_25_1__297 := cell_below bw_p_27 ct_25_1
            have ct_25_2__298 := cell_below bw_p_27 ct_25_2
            have ct_25_3__299 := cell_below bw_p_27 ct_25_3
            have ct_25_4__300 := cell_below bw_p_27 ct_25_4
            clear bw_p_27
            have kp_27_0 : w_p_27.cell? ⟨wr0.heap.size, 0, none⟩ = some (.int .i64 t_25_id) := by rw [← hw_p_27]; exact box_new _ _ _ 0 _ rfl
            have kp_27_1 : w_p_27.cell? ⟨wr0.heap.size, 1, none⟩ = some (.int .i64 t_25_thick) := by rw [← hw_p_27]; exact box_new _ _ _ 1 _ rfl
            have kp_27_2 : w_p_27.cell? ⟨wr0.heap.size, 2, none⟩ = some (.int .i64 t_25_tint) := by rw [← hw_p_27]; exact box_new _ _ _ 2 _ rfl
            have kp_27_3 : w_p_27.cell? ⟨wr0.heap.size, 3, none⟩ = some (.string t_25_mark) := by rw [← hw_p_27]; exact box_new _ _ _ 3 _ rfl
            have kp_27_4 : w_p_27.cell? ⟨wr0.heap.size, 4, none⟩ = some (.bool t_25_laid) := by rw [← hw_p_27]; exact box_new _ _ _ 4 _ rfl
            replace H := let_hid H
            obtain ⟨t_32, ht_32, H⟩ := H
            replace H := let_hid H
            obtain ⟨t_36, ht_36, H⟩ := H
            replace H := let_hid H
            obtain ⟨t_37, ht_37, H⟩ := H
            replace H := let_hid H
            obtain ⟨t_41, ht_41, H⟩ := H
            cases t_41 with
            | false =>
              replace H := ite_f H
              replace H := app_hid H
              go_wp2_with fail
              clear ct_25_0 ct_25_1 ct_25_2 ct_25_3 ct_25_4
              go_roundg m0
              case measure => omega
              case rel => exact ⟨k0 + 1, _, _, by omega, by go_num, rfl, rfl, H, HBw_p_27⟩
            | true =>
              replace H := ite_t H
              replace H := app_hid H
              go_wp2_with fail
              clear ct_25_0 ct_25_1 ct_25_2 ct_25_3 ct_25_4
              go_roundg m0
              case measure => omega
              case rel => exact ⟨k0 + 1, _, _, by omega, by go_num, rfl, rfl, H, HBw_p_27⟩
  | true =>
    have Hht_5 : Hid (list.length = 0) := Lib.hid (by have := eq_of_beq ht_5; omega)
    have nht_5 : (list.length == 0) = true := beq_iff_eq.2 Hht_5.out
    replace H := ite_t H
    replace H := app_hid H
    replace H := join_hid H
    replace H := ite_t H
    replace H := app_hid H
    replace H := ite_t H
    cases ret_hid H
    go_wp2_with fail
    go_ret3
    exact ⟨rfl, HB.out⟩
end Go.Proofs.Ytdgbigkcophjoaa.GiNearestPaper
