/- loop.example/g01062/spec.NearestPaper as a plain function, and the contract of the program's: where the plain one has an answer, the program has it. Conditions: slices read as lists. -/
import Derived.Test.YtdgbigkcophjoaaChecked
import Derived.Test.YtdgbigkcophjoaaGoM
import Derived.Test.YtdgbigkcophjoaaGoRPaper
import Derived.Test.YtdgbigkcophjoaaOPaper
import Derived.Test.YtdgbigkcophjoaaGsL3Good
import Derived.Test.YtdgbigkcophjoaaGsL1In
import Derived.Test.YtdgbigkcophjoaaGsL1Most
import Derived.WalkKit
import Derived.WalkSpells
import Derived.WalkLawsBesides
import Derived.BigQuiet
import Derived.OwnWalk
import Derived.Deep.LoopGhost
import Derived.Deep.QuietTactic
import Derived.IntWalk
import Derived.Lib.QuietBelow
namespace Go.Proofs.Ytdgbigkcophjoaa.GsNearestPaper
set_option linter.unusedVariables false
set_option linter.unusedSimpArgs false
open Go.RowKit
open Go.Proofs.Ytdgbigkcophjoaa.Rowed Go.Proofs.Ytdgbigkcophjoaa.Turn Go.Proofs.Ytdgbigkcophjoaa.Aid Go.Proofs.Ytdgbigkcophjoaa.GoP Go.Proofs.Ytdgbigkcophjoaa.GoM

def l0 (list : (List Go.Proofs.Ytdgbigkcophjoaa.PPaper.Paper)) (thick : Int) (k0 : Nat) (s : Int × Int) (nx0 bk0 : Int × Int → Option (Int × Int × Bool)) : Option (Int × Int × Bool) :=
  unp2 s fun best_7l0 least_8l0 =>
  Option.bind (idx list (k0 : Int)) fun (yt_28 : Go.Proofs.Ytdgbigkcophjoaa.PPaper.Paper) =>
  unPaper yt_28 fun (t_28_id : Int) (t_28_thick : Int) (t_28_tint : Int) (t_28_mark : ByteArray) (t_28_laid : Bool) =>
  letK (IntKind.i64.wrap (t_28_thick - thick)) fun (t_32 : Int) =>
  Option.bind (idx list (k0 : Int)) fun (yt_36 : Go.Proofs.Ytdgbigkcophjoaa.PPaper.Paper) =>
  unPaper yt_36 fun (t_36_id : Int) (t_36_thick : Int) (t_36_tint : Int) (t_36_mark : ByteArray) (t_36_laid : Bool) =>
  letK (IntKind.i64.wrap (thick - t_36_thick)) fun (t_39 : Int) =>
  Option.bind (Go.Proofs.Ytdgbigkcophjoaa.GsL1Most.P t_32 t_39) fun (t_40 : Int) =>
  letK (decide (t_40 < least_8l0)) fun (t_44 : Bool) =>
  iteK t_44
  (Option.bind (idx list (k0 : Int)) fun (yt_47 : Go.Proofs.Ytdgbigkcophjoaa.PPaper.Paper) =>
  unPaper yt_47 fun (t_47_id : Int) (t_47_thick : Int) (t_47_tint : Int) (t_47_mark : ByteArray) (t_47_laid : Bool) =>
  appK nx0 (t_47_id, t_40))
  (appK nx0 (best_7l0, least_8l0))

def e0  (s : Int × Int) : Option (Int × Int × Bool) :=
  unp2 s fun best_7l0 least_8l0 =>
  some (best_7l0, least_8l0, true)

def P (list : (List Go.Proofs.Ytdgbigkcophjoaa.PPaper.Paper)) (thick : Int) : Option (Int × Int × Bool) :=
  Option.bind (Go.Proofs.Ytdgbigkcophjoaa.GsL3Good.P list) fun (t_4 : Bool) =>
  letK (!t_4) fun (t_5 : Bool) =>
  joinK (fun (t_10 : Bool) =>
  joinK (fun (t_15 : Bool) =>
  iteK t_15
  (some (0, 0, false))
  (cntK (l0 list thick) (list.length) 0 (0, 301) (e0 ))) fun jt_15 => iteK t_10 (appK jt_15 true) (letK ((list.length : Int) == 0) fun (t_14 : Bool) =>
  appK jt_15 t_14)) fun jt_10 => iteK t_5 (appK jt_10 true) (Option.bind (Go.Proofs.Ytdgbigkcophjoaa.GsL1In.P thick 1 300) fun (t_8 : Bool) =>
  letK (!t_8) fun (t_9 : Bool) =>
  appK jt_10 t_9)

set_option maxRecDepth 100000 in
set_option maxHeartbeats 2000000 in
theorem C (list : (List Go.Proofs.Ytdgbigkcophjoaa.PPaper.Paper)) (thick : Int) (A0 : Option Addr) (c0 : Nat)  (w : World) (M0 : Hid (Cells w 5 A0 list.length (Go.Proofs.Ytdgbigkcophjoaa.PPaper.flat list))) (N0 : Hid (list.length ≤ 9223372036854775807))  {r0 : Int} {r1 : Int} {r2 : Bool} (H : Hid (P list thick = some (r0, r1, r2))) :
    Calls Try.prog 39 #[.slice A0 list.length c0, .int .i64 thick] w (Gives (.tuple #[.int .i64 r0, .int .i64 r1, .bool r2]) w) := by
  have HB := Lib.hid (Below.refl w.heap.size w)
  unfold P at H
  have N0o := N0.out
  go_enter Try.func39, Try.ntmps39
  replace H := bind_hid H
  obtain ⟨t_4, qt_4, H⟩ := H
  go_wp2_with fail
  go_at_call 77
  refine (Go.Proofs.Ytdgbigkcophjoaa.GsL3Good.C (list) A0 c0 _   (Lib.hid (Cells.below M0.out HB.out)) N0 qt_4).mono ?_
  rintro e_t_4 wt_4 ⟨rfl, bt_4⟩
  have HBwt_4 := Lib.hid (Below.step HB.out bt_4)
  clear bt_4
  cases t_4 with
  | false =>
    replace H := let_hid H
    obtain ⟨t_5, ht_5, H⟩ := H
    obtain rfl : t_5 = true := ht_5.symm
    replace H := join_hid H
    replace H := ite_t H
    replace H := app_hid H
    replace H := join_hid H
    replace H := ite_t H
    replace H := app_hid H
    replace H := ite_t H
    cases ret_hid H
    go_wp2_with fail
    go_ret3
    exact ⟨rfl, HBwt_4.out⟩
  | true =>
    replace H := let_hid H
    obtain ⟨t_5, ht_5, H⟩ := H
    obtain rfl : t_5 = false := ht_5.symm
    replace H := join_hid H
    replace H := ite_f H
    replace H := bind_hid H
    obtain ⟨t_8, qt_8, H⟩ := H
    go_wp2_with fail
    go_at_call 67
    refine (Go.Proofs.Ytdgbigkcophjoaa.GsL1In.C (thick) (1) (300)  _    qt_8).mono ?_
    rintro e_t_8 wt_8 ⟨rfl, bt_8⟩
    have HBwt_8 := Lib.hid (Below.step HBwt_4.out bt_8)
    clear bt_8
    cases t_8 with
    | false =>
      replace H := let_hid H
      obtain ⟨t_9, ht_9, H⟩ := H
      obtain rfl : t_9 = true := ht_9.symm
      replace H := app_hid H
      replace H := join_hid H
      replace H := ite_t H
      replace H := app_hid H
      replace H := ite_t H
      cases ret_hid H
      go_wp2_with fail
      go_ret3
      exact ⟨rfl, HBwt_8.out⟩
    | true =>
      replace H := let_hid H
      obtain ⟨t_9, ht_9, H⟩ := H
      obtain rfl : t_9 = false := ht_9.symm
      replace H := app_hid H
      replace H := join_hid H
      replace H := ite_f H
      replace H := let_hid H
      obtain ⟨t_14, ht_14, H⟩ := H
      replace H := app_hid H
      cases t_14 with
      | false =>
        have nht_14 : ¬ (list.length = 0) := by have := ne_of_beq_false ht_14; omega
        replace H := ite_f H
        go_wp2_with fail
        go_loopg [9, 7, 8] (list.length) (fun m_ v9_ v7_ v8_ wr => ∃ (k0 : Nat) (best_7l0 : Int) (least_8l0 : Int), k0 + m_ = list.length ∧ v9_ = .int .i64 (k0 : Int) ∧ v7_ = .int .i64 best_7l0 ∧ v8_ = .int .i64 least_8l0 ∧ Hid (cntK (l0 list thick) m_ k0 (best_7l0, least_8l0) (e0 ) = some (r0, r1, r2)) ∧ Hid (Below w.heap.size w wr))
        case atStart => exact ⟨0, _, _, by omega, rfl, rfl, rfl, H, HBwt_8⟩
        case round =>
          obtain ⟨k0, best_7l0, least_8l0, hkm0, rfl, rfl, rfl, H, HBwr0⟩ := hrel
          rename World => wr0
          cases gk with
          | zero =>
            obtain rfl : k0 = list.length := by omega
            have hc0 : decide (((list.length : Nat) : Int) < ((list.length : Nat) : Int)) = false := by simp
            replace H := cnt_zero H
            unfold e0 at H
            replace H := unp2_hid H
            cases ret_hid H
            go_wp2_with fail
            go_ret3
            exact ⟨rfl, HBwr0.out⟩
          | succ m0 =>
            have hlt0 : k0 < list.length := by omega
            have hc0 : decide ((k0 : Int) < ((list.length : Nat) : Int)) = true := by simp; omega
            replace H := cnt_succ H
            unfold l0 at H
            replace H := unp2_hid H
            go_wp2_with fail
            replace H := idx_hid H
            obtain ⟨nt_28, yt_28, et_28, lt_28, gt_28, H⟩ := H
            obtain rfl : k0 = nt_28 := by omega
            clear et_28
            obtain ⟨t_28_id, t_28_thick, t_28_tint, t_28_mark, t_28_laid⟩ := yt_28
            replace H := unPaper_hid H
            obtain ⟨ab_t_28, ao_t_28, zt_28, At_28, z_t_28, ct_28_0, ct_28_1, ct_28_2, ct_28_3, ct_28_4⟩ := Go.Proofs.Ytdgbigkcophjoaa.OPaper.at_ M0.out lt_28
            obtain rfl := Option.some.inj (gt_28.out.symm.trans z_t_28)
            subst At_28
            have ltt_28 := cell_lt ct_28_0
            replace ct_28_0 := cell_below HBwr0.out ct_28_0
            replace ct_28_1 := cell_below HBwr0.out ct_28_1
            replace ct_28_2 := cell_below HBwr0.out ct_28_2
            replace ct_28_3 := cell_below HBwr0.out ct_28_3
            replace ct_28_4 := cell_below HBwr0.out ct_28_4
            clear z_t_28
            have b0t_28 : (0 : Int) ≤ (k0 : Int) := by omega
            have b1t_28 : (k0 : Int) < ((list.length : Nat) : Int) := by omega
            have b2t_28 : ((k0 : Int)).toNat = k0 := by omega
            have Hct_28_0 := Lib.hid ct_28_0
            replace ct_28_0 := cell_regrown ct_28_0
            have Hct_28_1 := Lib.hid ct_28_1
            replace ct_28_1 := cell_regrown ct_28_1
            have Hct_28_2 := Lib.hid ct_28_2
            replace ct_28_2 := cell_regrown ct_28_2
            have Hct_28_3 := Lib.hid ct_28_3
            replace ct_28_3 := cell_regrown ct_28_3
            have Hct_28_4 := Lib.hid ct_28_4
            replace ct_28_4 := cell_regrown ct_28_4
            replace H := let_hid H
            obtain ⟨t_32, ht_32, H⟩ := H
            replace H := idx_hid H
            obtain ⟨nt_36, yt_36, et_36, lt_36, gt_36, H⟩ := H
            obtain rfl : k0 = nt_36 := by omega
            clear et_36
            obtain rfl := Option.some.inj (gt_28.out.symm.trans gt_36.out)
            clear gt_36 lt_36
            replace H := unPaper_hid H
            replace H := let_hid H
            obtain ⟨t_39, ht_39, H⟩ := H
            replace H := bind_hid H
            obtain ⟨t_40, qt_40, H⟩ := H
            have nt_40 : ∀ d os, Calls Try.prog 83 #[.int .i64 t_32, .int .i64 t_39] (Go.Sort.grow (redrawn wr0 d) os) fun e w'' => e = .returned (.int .i64 t_40) ∧ ∃ p : Regrown, w'' = Go.Sort.grow (redrawn wr0 p.d) p.os := fun d os => Calls.regrown_of (Go.Proofs.Ytdgbigkcophjoaa.GsL1Most.C (t_32) (t_39)  _    qt_40)
            refine wp_region_quiet_below (by kernel_rfl) (by kernel_rfl) ?_
            repeat (go_big_quiet_step (first | (go_at_call 83; exact nt_40 _ _)))
            refine wpQuiet_nil ?_
            intro Y7 hY7
            replace hY7 := below_class hY7
            clear nt_40
            replace ct_28_0 := Hct_28_0.out
            clear Hct_28_0
            replace ct_28_1 := Hct_28_1.out
            clear Hct_28_1
            replace ct_28_2 := Hct_28_2.out
            clear Hct_28_2
            replace ct_28_3 := Hct_28_3.out
            clear Hct_28_3
            replace ct_28_4 := Hct_28_4.out
            clear Hct_28_4
            have HBY7 := Lib.hid (Below.step HBwr0.out hY7)
            replace ct_28_0 := cell_below hY7 ct_28_0
            replace ct_28_1 := cell_below hY7 ct_28_1
            replace ct_28_2 := cell_below hY7 ct_28_2
            replace ct_28_3 := cell_below hY7 ct_28_3
            replace ct_28_4 := cell_below hY7 ct_28_4
            clear hY7
            replace H := let_hid H
            obtain ⟨t_44, ht_44, H⟩ := H
            cases t_44 with
            | false =>
              replace H := ite_f H
              replace H := app_hid H
              go_wp2_with fail
              go_roundg m0
              case measure => omega
              case rel => exact ⟨k0 + 1, _, _, by omega, by go_num, rfl, rfl, H, HBY7⟩
            | true =>
              replace H := ite_t H
              replace H := idx_hid H
              obtain ⟨nt_47, yt_47, et_47, lt_47, gt_47, H⟩ := H
              obtain rfl : k0 = nt_47 := by omega
              clear et_47
              obtain rfl := Option.some.inj (gt_28.out.symm.trans gt_47.out)
              clear gt_47 lt_47
              replace H := unPaper_hid H
              replace H := app_hid H
              go_wp2_with fail
              go_roundg m0
              case measure => omega
              case rel => exact ⟨k0 + 1, _, _, by omega, by go_num, rfl, rfl, H, HBY7⟩
      | true =>
        have Hht_14 : Hid (list.length = 0) := Lib.hid (by have := eq_of_beq ht_14; omega)
        have nht_14 : (list.length == 0) = true := beq_iff_eq.2 Hht_14.out
        replace H := ite_t H
        cases ret_hid H
        go_wp2_with fail
        go_ret3
        exact ⟨rfl, HBwt_8.out⟩
end Go.Proofs.Ytdgbigkcophjoaa.GsNearestPaper
