/- Texts on which the proofs of several laws stand, one behind the other (7 of 13). No condition of their own. -/
import Derived.Test.YtlljmgphgmklcaaChecked
import Derived.Test.YtlljmgphgmklcaaV10P1
import Derived.Test.YtlljmgphgmklcaaV10P5
import Derived.Test.YtlljmgphgmklcaaV10P2
import Derived.Test.YtlljmgphgmklcaaV10P6
import Derived.WalkKit
import Derived.WalkSpells
import Derived.WalkLawsBesides
import Derived.BigQuiet
import Derived.OwnWalk
import Derived.Deep.LoopGhost
import Derived.Deep.QuietTactic
import Derived.IntWalk
import Derived.Lib.QuietBelow
import Derived.Test.YtlljmgphgmklcaaV10P4
/- loop.example/g01062/impl.firstRoute as a plain function, and the contract of the program's: where the plain one has an answer, the program has it. Conditions: slices read as lists. -/
namespace Go.Proofs.Ytlljmgphgmklcaa.GiFirstRoute
set_option linter.unusedVariables false
set_option linter.unusedSimpArgs false
open Go.RowKit
open Go.Proofs.Ytlljmgphgmklcaa.Rowed Go.Proofs.Ytlljmgphgmklcaa.Turn Go.Proofs.Ytlljmgphgmklcaa.Aid Go.Proofs.Ytlljmgphgmklcaa.GoP Go.Proofs.Ytlljmgphgmklcaa.GoM

def l1 (list : (List Go.Proofs.Ytlljmgphgmklcaa.PMail.Mail)) (vlatest_0 : (List Int)) (nx0 : (Int × Int × (List Int)) → Option ((List Int))) (k1 : Nat) (s : Int × Int × (List Int)) (nx1 bk1 : Int × Int × (List Int) → Option ((List Int))) : Option ((List Int)) :=
  unp3 s fun office_1l1 minute_2l1 route_9l1 =>
  Option.bind (idx list (k1 : Int)) fun (yt_9 : Go.Proofs.Ytlljmgphgmklcaa.PMail.Mail) =>
  unMail yt_9 fun (t_9_leave : Int) (t_9_from_ : Int) (t_9_to_ : Int) (t_9_arrive : Int) =>
  Option.bind (Go.Proofs.Ytlljmgphgmklcaa.GiCanTake.P (Go.Proofs.Ytlljmgphgmklcaa.PMail.Mail.mk t_9_leave t_9_from_ t_9_to_ t_9_arrive) office_1l1 minute_2l1) fun (t_17 : Bool) =>
  joinK (fun (t_26 : Bool) =>
  iteK t_26
  (guardK (route_9l1.length ≤ 1099511627776) <|
  letK (route_9l1 ++ [(k1 : Int)]) fun (t_30 : (List Int)) =>
  appK nx0 (t_9_to_, t_9_arrive, t_30))
  (appK nx1 (office_1l1, minute_2l1, route_9l1))) fun jt_26 => iteK t_17 (Option.bind (idx vlatest_0 t_9_to_) fun (yt_23 : Int) =>
  letK (decide (t_9_arrive ≤ yt_23)) fun (t_25 : Bool) =>
  appK jt_26 t_25) (appK jt_26 false)

def e1  (s : Int × Int × (List Int)) : Option ((List Int)) :=
  unp3 s fun office_1l1 minute_2l1 route_9l1 =>
  some route_9l1

def l0 (list : (List Go.Proofs.Ytlljmgphgmklcaa.PMail.Mail)) (vlatest_0 : (List Int)) (s : Int × Int × (List Int)) (nx0 bk0 : Int × Int × (List Int) → Option ((List Int))) : Option ((List Int)) :=
  unp3 s fun office_1l0 minute_2l0 route_9l0 =>
  cntK (l1 list vlatest_0 nx0) (list.length) 0 (office_1l0, minute_2l0, route_9l0) (e1 )

def e0  (s : Int × Int × (List Int)) : Option ((List Int)) :=
  unp3 s fun office_1l0 minute_2l0 route_9l0 =>
  some []

def P (fuel : Nat) (list : (List Go.Proofs.Ytlljmgphgmklcaa.PMail.Mail)) (office : Int) (minute : Int) (latest : Go.Proofs.Ytlljmgphgmklcaa.PIntA10.IntA10) : Option ((List Int)) :=
  unIntA10 latest fun (latest_x0 : Int) (latest_x1 : Int) (latest_x2 : Int) (latest_x3 : Int) (latest_x4 : Int) (latest_x5 : Int) (latest_x6 : Int) (latest_x7 : Int) (latest_x8 : Int) (latest_x9 : Int) =>
  letK ([latest_x0, latest_x1, latest_x2, latest_x3, latest_x4, latest_x5, latest_x6, latest_x7, latest_x8, latest_x9]) fun (vlatest_0 : (List Int)) =>
  loopK (l0 list vlatest_0) fuel (office, minute, ([] : List Int)) (e0 )

set_option maxRecDepth 100000 in
set_option maxHeartbeats 2000000 in
theorem C (fuel : Nat) (list : (List Go.Proofs.Ytlljmgphgmklcaa.PMail.Mail)) (office : Int) (minute : Int) (latest : Go.Proofs.Ytlljmgphgmklcaa.PIntA10.IntA10) (A0 : Option Addr) (c0 : Nat)  (w : World) (M0 : Hid (Cells w 4 A0 list.length (Go.Proofs.Ytlljmgphgmklcaa.PMail.flat list))) (N0 : Hid (list.length ≤ 9223372036854775807))  {r : (List Int)} (H : Hid (P fuel list office minute latest = some r)) :
    Calls Try.prog 152 #[.slice A0 list.length c0, .int .i64 office, .int .i64 minute, latest.val] w (fun e w' => ∃ A_r c_r, e = .returned (.slice A_r r.length c_r) ∧ w'.ownsRow w.heap.size 3 1 (.slice A_r r.length c_r) r.length (Go.Proofs.Ytlljmgphgmklcaa.HelpInt.iv r) ∧ Below w.heap.size w w') := by
  have HB := Lib.hid (Below.refl w.heap.size w)
  unfold P at H
  obtain ⟨latest_x0, latest_x1, latest_x2, latest_x3, latest_x4, latest_x5, latest_x6, latest_x7, latest_x8, latest_x9⟩ := latest
  replace H := unIntA10_hid H
  unfold Go.Proofs.Ytlljmgphgmklcaa.PIntA10.IntA10.val
  have N0o := N0.out
  obtain ⟨i0_3, hi_3, hz0_3, hz1_3, hz2_3⟩ := Aid.info_parts (P := Try.prog) (T := 3) (z := .int .i64 0) (s := 1) (b := 8) (by kernel_rfl)
  go_enter Try.func152, Try.ntmps152
  replace H := let_hid H
  obtain ⟨vlatest_0, hvlatest_0, H⟩ := H
  obtain ⟨w_latest_0, hw_latest_0⟩ : ∃ x, w.alloc (.cells #[.int .i64 latest_x0, .int .i64 latest_x1, .int .i64 latest_x2, .int .i64 latest_x3, .int .i64 latest_x4, .int .i64 latest_x5, .int .i64 latest_x6, .int .i64 latest_x7, .int .i64 latest_x8, .int .i64 latest_x9] 121) = x := ⟨_, rfl⟩
  have bw_latest_0 : Below w.heap.size w w_latest_0 := by rw [← hw_latest_0]; exact (Below.refl _ _).alloc (Nat.le_refl _) _
  have hs_latest_0 := HB.out.size
  have nlatest_0 : vlatest_0.length = 10 := by rw [← hvlatest_0]; rfl
  have Olatest_0 : Hid (w_latest_0.ownsRow w.heap.size 121 1 (.slice (some ⟨w.heap.size, 0, none⟩) 10 10) 10 (Go.Proofs.Ytlljmgphgmklcaa.HelpInt.iv vlatest_0)) := by
    rw [← hw_latest_0, ← hvlatest_0]
    have e_ : ([.int .i64 latest_x0, .int .i64 latest_x1, .int .i64 latest_x2, .int .i64 latest_x3, .int .i64 latest_x4, .int .i64 latest_x5, .int .i64 latest_x6, .int .i64 latest_x7, .int .i64 latest_x8, .int .i64 latest_x9] : List Value) = Go.Proofs.Ytlljmgphgmklcaa.HelpInt.iv [latest_x0, latest_x1, latest_x2, latest_x3, latest_x4, latest_x5, latest_x6, latest_x7, latest_x8, latest_x9] := rfl
    exact Lib.hid (own_laid (n := 10) hs_latest_0 e_ rfl (by unfold maxLen; omega))
  clear hs_latest_0
  have hhlatest_0 := Lib.hid hvlatest_0
  clear hvlatest_0
  replace nlatest_0 := Lib.hid nlatest_0
  have HBw_latest_0 := Lib.hid (Below.step HB.out bw_latest_0)
  clear bw_latest_0
  go_wp2_with fail
  refine Go.Proofs.Ytlljmgphgmklcaa.GoA.wp_scope_goto (l := 0) rfl ?_
  intro Kg_ hKg_
  obtain ⟨w_t_2, hw_t_2⟩ : ∃ x, w_latest_0.alloc (.cells #[] 3) = x := ⟨_, rfl⟩
  have bw_t_2 : Below w_latest_0.heap.size w_latest_0 w_t_2 := by rw [← hw_t_2]; exact (Below.refl _ _).alloc (Nat.le_refl _) _
  have Ot_2 : Hid (w_t_2.ownsRow w.heap.size 3 1 (.slice (some ⟨w_latest_0.heap.size, 0, none⟩) 0 0) 0 []) := Lib.hid (by rw [← hw_t_2]; exact own_empty HBw_latest_0.out.size)
  have Dt_2_latest_0 := Lib.hid (apart_fresh Olatest_0.out)
  have HBw_t_2 := Lib.hid (Below.step HBw_latest_0.out bw_t_2)
  replace Olatest_0 := Lib.hid (own_below Olatest_0.out bw_t_2)
  clear bw_t_2
  go_wp2_with fail
  try refine hKg_ _ _ ?_
  refine Go.Proofs.Ytlljmgphgmklcaa.GoA.jumps_intro [false, true, true, false, false, false, false, false, true, true, true, true, false, true, true, true, true, true, true, true, true, true, true, true, true, true, true, true, true, true, true, true, true, true, true, true, true, true, true, true, true, true, true] fuel (fun m_ u_ wr => (fun m_ v1_ v2_ v9_ wr => ∃ (office_1l0 : Int) (minute_2l0 : Int) (route_9l0 : (List Int)) (Aroute_9l0 : Option Addr) (croute_9l0 : Nat), v1_ = .int .i64 office_1l0 ∧ v2_ = .int .i64 minute_2l0 ∧ v9_ = .slice Aroute_9l0 route_9l0.length croute_9l0 ∧ Hid (loopK (l0 list vlatest_0) m_ (office_1l0, minute_2l0, route_9l0) (e0 ) = some r) ∧ Hid (Below w.heap.size w wr) ∧ Hid (wr.ownsRow w.heap.size 3 1 (.slice Aroute_9l0 route_9l0.length croute_9l0) route_9l0.length (Go.Proofs.Ytlljmgphgmklcaa.HelpInt.iv route_9l0)) ∧ Hid (wr.ownsRow w.heap.size 121 1 (.slice (some ⟨w.heap.size, 0, none⟩) 10 10) 10 (Go.Proofs.Ytlljmgphgmklcaa.HelpInt.iv vlatest_0)) ∧ Hid (Apart Aroute_9l0 (some ⟨w.heap.size, 0, none⟩))) m_ (u_ 1) (u_ 2) (u_ 9) wr) ?atStart ?round
  case atStart => exact ⟨_, _, _, _, _, rfl, rfl, rfl, H, HBw_t_2, Ot_2, Olatest_0, Lib.hid Dt_2_latest_0.out⟩
  case round =>
    intro gk ug_ wg_ hrel Jg_ hJg_
    obtain ⟨office_1l0, minute_2l0, route_9l0, Aroute_9l0, croute_9l0, eg1_, eg2_, eg9_, H, HBwr0, Oroute_9l0, Olatest_0, Droute_9l0_latest_0⟩ := hrel
    rename World => wr0
    simp only [Go.Proofs.Ytlljmgphgmklcaa.GoA.over, Nat.reduceAdd, eg1_, eg2_, eg9_]
    clear eg1_ eg2_ eg9_
    cases gk with
    | zero => exact (loop_zero H).elim
    | succ m0 =>
      replace H := loop_succ H
      unfold l0 at H
      replace H := unp3_hid H
      go_wp2_with fail
      go_loopg [15, 1, 2, 9] (list.length) (fun m_ v15_ v1_ v2_ v9_ wr => ∃ (k1 : Nat) (office_1l1 : Int) (minute_2l1 : Int) (route_9l1 : (List Int)) (Aroute_9l1 : Option Addr) (croute_9l1 : Nat), k1 + m_ = list.length ∧ v15_ = .int .i64 (k1 : Int) ∧ v1_ = .int .i64 office_1l1 ∧ v2_ = .int .i64 minute_2l1 ∧ v9_ = .slice Aroute_9l1 route_9l1.length croute_9l1 ∧ Hid (cntK (l1 list vlatest_0 (fun s' => loopK (l0 list vlatest_0) m0 s' (e0 ))) m_ k1 (office_1l1, minute_2l1, route_9l1) (e1 ) = some r) ∧ Hid (Below w.heap.size w wr) ∧ Hid (wr.ownsRow w.heap.size 3 1 (.slice Aroute_9l1 route_9l1.length croute_9l1) route_9l1.length (Go.Proofs.Ytlljmgphgmklcaa.HelpInt.iv route_9l1)) ∧ Hid (wr.ownsRow w.heap.size 121 1 (.slice (some ⟨w.heap.size, 0, none⟩) 10 10) 10 (Go.Proofs.Ytlljmgphgmklcaa.HelpInt.iv vlatest_0)) ∧ Hid (Apart Aroute_9l1 (some ⟨w.heap.size, 0, none⟩)))
      case atStart => exact ⟨0, _, _, _, _, _, by omega, rfl, rfl, rfl, rfl, H, HBwr0, Oroute_9l0, Olatest_0, Lib.hid Droute_9l0_latest_0.out⟩
      case round =>
        obtain ⟨k1, office_1l1, minute_2l1, route_9l1, Aroute_9l1, croute_9l1, hkm1, rfl, rfl, rfl, rfl, H, HBwr1, Oroute_9l1, Olatest_0, Droute_9l1_latest_0⟩ := hrel
        rename World => wr1
        cases gk with
        | zero =>
          obtain rfl : k1 = list.length := by omega
          have hc1 : decide (((list.length : Nat) : Int) < ((list.length : Nat) : Int)) = false := by simp
          replace H := cnt_zero H
          unfold e1 at H
          replace H := unp3_hid H
          obtain rfl := ret_hid H
          go_wp2_with fail
          try simp only [Exit.noGoto, Exit.jump]
          go_wp2_with fail
          go_ret
          exact ⟨Aroute_9l1, croute_9l1, rfl, Oroute_9l1.out, HBwr1.out⟩
        | succ m1 =>
          have hlt1 : k1 < list.length := by omega
          have hc1 : decide ((k1 : Int) < ((list.length : Nat) : Int)) = true := by simp; omega
          replace H := cnt_succ H
          unfold l1 at H
          replace H := unp3_hid H
          replace H := idx_hid H
          obtain ⟨nt_9, yt_9, et_9, lt_9, gt_9, H⟩ := H
          obtain rfl : k1 = nt_9 := by omega
          clear et_9
          obtain ⟨t_9_leave, t_9_from_, t_9_to_, t_9_arrive⟩ := yt_9
          replace H := unMail_hid H
          obtain ⟨ab_t_9, ao_t_9, zt_9, At_9, z_t_9, ct_9_0, ct_9_1, ct_9_2, ct_9_3⟩ := Go.Proofs.Ytlljmgphgmklcaa.OMail.at_ M0.out lt_9
          obtain rfl := Option.some.inj (gt_9.out.symm.trans z_t_9)
          subst At_9
          have ltt_9 := cell_lt ct_9_0
          replace ct_9_0 := cell_below HBwr1.out ct_9_0
          replace ct_9_1 := cell_below HBwr1.out ct_9_1
          replace ct_9_2 := cell_below HBwr1.out ct_9_2
          replace ct_9_3 := cell_below HBwr1.out ct_9_3
          clear z_t_9
          have b0t_9 : (0 : Int) ≤ (k1 : Int) := by omega
          have b1t_9 : (k1 : Int) < ((list.length : Nat) : Int) := by omega
          have b2t_9 : ((k1 : Int)).toNat = k1 := by omega
          obtain ⟨w_x_11, hw_x_11⟩ : ∃ x, wr1.alloc (.cells #[.int .i64 t_9_leave, .int .i64 t_9_from_, .int .i64 t_9_to_, .int .i64 t_9_arrive] 108) = x := ⟨_, rfl⟩
          have bw_x_11 : Below wr1.heap.size wr1 w_x_11 := by rw [← hw_x_11]; exact (Below.refl _ _).alloc (Nat.le_refl _) _
          have Dx_11_latest_0 := Lib.hid (apart_fresh Olatest_0.out)
          have Dx_11_route_9l1 := Lib.hid (apart_fresh Oroute_9l1.out)
          have HBw_x_11 := Lib.hid (Below.step HBwr1.out bw_x_11)
          have ct_9_0__658 := cell_below bw_x_11 ct_9_0
          have ct_9_1__659 := cell_below bw_x_11 ct_9_1
          have ct_9_2__660 := cell_below bw_x_11 ct_9_2
          have ct_9_3__661 := cell_below bw_x_11 ct_9_3
          replace Olatest_0 := Lib.hid (own_below Olatest_0.out bw_x_11)
          replace Oroute_9l1 := Lib.hid (own_below Oroute_9l1.out bw_x_11)
          clear bw_x_11
          have kx_11_0 : w_x_11.cell? ⟨wr1.heap.size, 0, none⟩ = some (.int .i64 t_9_leave) := by rw [← hw_x_11]; exact box_new _ _ _ 0 _ rfl
          have kx_11_1 : w_x_11.cell? ⟨wr1.heap.size, 1, none⟩ = some (.int .i64 t_9_from_) := by rw [← hw_x_11]; exact box_new _ _ _ 1 _ rfl
          have kx_11_2 : w_x_11.cell? ⟨wr1.heap.size, 2, none⟩ = some (.int .i64 t_9_to_) := by rw [← hw_x_11]; exact box_new _ _ _ 2 _ rfl
          have kx_11_3 : w_x_11.cell? ⟨wr1.heap.size, 3, none⟩ = some (.int .i64 t_9_arrive) := by rw [← hw_x_11]; exact box_new _ _ _ 3 _ rfl
          go_wp2_with fail
          clear ct_9_0 ct_9_1 ct_9_2 ct_9_3
          have Hct_9_0__658 := Lib.hid ct_9_0__658
          replace ct_9_0__658 := cell_regrown ct_9_0__658
          have Hct_9_1__659 := Lib.hid ct_9_1__659
          replace ct_9_1__659 := cell_regrown ct_9_1__659
          have Hct_9_2__660 := Lib.hid ct_9_2__660
          replace ct_9_2__660 := cell_regrown ct_9_2__660
          have Hct_9_3__661 := Lib.hid ct_9_3__661
          replace ct_9_3__661 := cell_regrown ct_9_3__661
          have Hkx_11_0 := Lib.hid kx_11_0
          replace kx_11_0 := cell_regrown kx_11_0
          have Hkx_11_1 := Lib.hid kx_11_1
          replace kx_11_1 := cell_regrown kx_11_1
          have Hkx_11_2 := Lib.hid kx_11_2
          replace kx_11_2 := cell_regrown kx_11_2
          have Hkx_11_3 := Lib.hid kx_11_3
          replace kx_11_3 := cell_regrown kx_11_3
          replace H := bind_hid H
          obtain ⟨t_17, qt_17, H⟩ := H
          have nt_17 : ∀ d os, Calls Try.prog 118 #[.agg #[.int .i64 t_9_leave, .int .i64 t_9_from_, .int .i64 t_9_to_, .int .i64 t_9_arrive], .int .i64 office_1l1, .int .i64 minute_2l1] (Go.Sort.grow (redrawn w_x_11 d) os) fun e w'' => e = .returned (.bool t_17) ∧ ∃ p : Regrown, w'' = Go.Sort.grow (redrawn w_x_11 p.d) p.os := fun d os => Calls.regrown_of (Go.Proofs.Ytlljmgphgmklcaa.GiCanTake.C ((Go.Proofs.Ytlljmgphgmklcaa.PMail.Mail.mk t_9_leave t_9_from_ t_9_to_ t_9_arrive)) (office_1l1) (minute_2l1)  _    qt_17)
          replace H := join_hid H
          cases t_17 with
          | false =>
            replace H := ite_f H
            replace H := app_hid H
            refine wp_region_quiet_below (by kernel_rfl) (by kernel_rfl) ?_
            repeat (go_big_quiet_step (first | (go_at_call 118; exact nt_17 _ _)))
            refine wpQuiet_nil ?_
            intro Y5 hY5
            replace hY5 := below_class hY5
            clear nt_17
            replace ct_9_0__658 := Hct_9_0__658.out
            clear Hct_9_0__658
            replace ct_9_1__659 := Hct_9_1__659.out
            clear Hct_9_1__659
            replace ct_9_2__660 := Hct_9_2__660.out
            clear Hct_9_2__660
            replace ct_9_3__661 := Hct_9_3__661.out
            clear Hct_9_3__661
            replace kx_11_0 := Hkx_11_0.out
            clear Hkx_11_0
            replace kx_11_1 := Hkx_11_1.out
            clear Hkx_11_1
            replace kx_11_2 := Hkx_11_2.out
            clear Hkx_11_2
            replace kx_11_3 := Hkx_11_3.out
            clear Hkx_11_3
            have HBY5 := Lib.hid (Below.step HBw_x_11.out hY5)
            replace ct_9_0__658 := cell_below hY5 ct_9_0__658
            replace ct_9_1__659 := cell_below hY5 ct_9_1__659
            replace ct_9_2__660 := cell_below hY5 ct_9_2__660
            replace ct_9_3__661 := cell_below hY5 ct_9_3__661
            replace kx_11_0 := cell_below hY5 kx_11_0
            replace kx_11_1 := cell_below hY5 kx_11_1
            replace kx_11_2 := cell_below hY5 kx_11_2
            replace kx_11_3 := cell_below hY5 kx_11_3
            replace Olatest_0 := Lib.hid (own_below Olatest_0.out hY5)
            replace Oroute_9l1 := Lib.hid (own_below Oroute_9l1.out hY5)
            clear hY5
            replace H := ite_f H
            replace H := app_hid H
            go_wp2_with fail
            go_roundg m1
            case measure => omega
            case rel => exact ⟨k1 + 1, _, _, _, _, _, by omega, by go_num, rfl, rfl, rfl, H, HBY5, Oroute_9l1, Olatest_0, Lib.hid Droute_9l1_latest_0.out⟩
          | true =>
            replace H := ite_t H
            replace H := idx_hid H
            obtain ⟨nt_23, yt_23, et_23, lt_23, gt_23, H⟩ := H
            subst et_23
            have hqt_23 := nlatest_0.out
            obtain ⟨ab_t_23, ao_t_23, zt_23, At_23, z_t_23, ct_23_0⟩ := Go.Proofs.Ytlljmgphgmklcaa.HelpInt.Ints.at_ (own_cells Olatest_0.out) (k := nt_23) (by omega)
            obtain rfl := Option.some.inj (gt_23.out.symm.trans z_t_23)
            simp only [Option.some.injEq, Addr.mk.injEq] at At_23
            obtain ⟨rfl, rfl, _⟩ := At_23
            clear z_t_23
            simp only [Nat.zero_add] at ct_23_0
            have b0t_23 : (0 : Int) ≤ (nt_23 : Int) := by omega
            have b1t_23 : (nt_23 : Int) < ((10 : Nat) : Int) := by omega
            have b2t_23 : ((nt_23 : Int)).toNat = nt_23 := by omega
            clear hqt_23
            have Hct_23_0 := Lib.hid ct_23_0
            replace ct_23_0 := cell_regrown ct_23_0
            have b3t_23 : nt_23 < 10 := by have h_ := lt_23; have hn_ := nlatest_0.out; omega
            have b4t_23 : (nt_23 : Int) < (10 : Int) := by omega
            replace H := let_hid H
            obtain ⟨t_25, ht_25, H⟩ := H
            replace H := app_hid H
            refine wp_region_quiet_below (by kernel_rfl) (by kernel_rfl) ?_
            repeat (go_big_quiet_step (first | (go_at_call 118; exact nt_17 _ _)))
            refine wpQuiet_nil ?_
            intro Y5 hY5
            replace hY5 := below_class hY5
            clear nt_17
            replace ct_9_0__658 := Hct_9_0__658.out
            clear Hct_9_0__658
            replace ct_9_1__659 := Hct_9_1__659.out
            clear Hct_9_1__659
            replace ct_9_2__660 := Hct_9_2__660.out
            clear Hct_9_2__660
            replace ct_9_3__661 := Hct_9_3__661.out
            clear Hct_9_3__661
            replace kx_11_0 := Hkx_11_0.out
            clear Hkx_11_0
            replace kx_11_1 := Hkx_11_1.out
            clear Hkx_11_1
            replace kx_11_2 := Hkx_11_2.out
            clear Hkx_11_2
            replace kx_11_3 := Hkx_11_3.out
            clear Hkx_11_3
            replace ct_23_0 := Hct_23_0.out
            clear Hct_23_0
            have HBY5 := Lib.hid (Below.step HBw_x_11.out hY5)
            replace ct_9_0__658 := cell_below hY5 ct_9_0__658
            replace ct_9_1__659 := cell_below hY5 ct_9_1__659
            replace ct_9_2__660 := cell_below hY5 ct_9_2__660
            replace ct_9_3__661 := cell_below hY5 ct_9_3__661
            replace kx_11_0 := cell_below hY5 kx_11_0
            replace kx_11_1 := cell_below hY5 kx_11_1
            replace kx_11_2 := cell_below hY5 kx_11_2
            replace kx_11_3 := cell_below hY5 kx_11_3
            replace ct_23_0 := cell_below hY5 ct_23_0
            replace Olatest_0 := Lib.hid (own_below Olatest_0.out hY5)
            replace Oroute_9l1 := Lib.hid (own_below Oroute_9l1.out hY5)
            clear hY5
            cases t_25 with
            | false =>
              replace H := ite_f H
              replace H := app_hid H
              go_wp2_with fail
              go_roundg m1
              case measure => omega
              case rel => exact ⟨k1 + 1, _, _, _, _, _, by omega, by go_num, rfl, rfl, rfl, H, HBY5, Oroute_9l1, Olatest_0, Lib.hid Droute_9l1_latest_0.out⟩
            | true =>
              replace H := ite_t H
              obtain ⟨w_t_29, hw_t_29⟩ : ∃ x, Y5.alloc (.cells #[.int .i64 (k1 : Int)] 3) = x := ⟨_, rfl⟩
              have bw_t_29 : Below Y5.heap.size Y5 w_t_29 := by rw [← hw_t_29]; exact (Below.refl _ _).alloc (Nat.le_refl _) _
              have HBw_t_29 := Lib.hid (Below.step HBY5.out bw_t_29)
              have ct_9_0__662 := cell_below bw_t_29 ct_9_0__658
              have ct_9_1__663 := cell_below bw_t_29 ct_9_1__659
              have ct_9_2__664 := cell_below bw_t_29 ct_9_2__660
              have ct_9_3__665 := cell_below bw_t_29 ct_9_3__661
              have kx_11_0__666 := cell_below bw_t_29 kx_11_0
              have kx_11_1__667 := cell_below bw_t_29 kx_11_1
              have kx_11_2__668 := cell_below bw_t_29 kx_11_2
              have kx_11_3__669 := cell_below bw_t_29 kx_11_3
              have ct_23_0__670 := cell_below bw_t_29 ct_23_0
              replace Olatest_0 := Lib.hid (own_below Olatest_0.out bw_t_29)
              replace Oroute_9l1 := Lib.hid (own_below Oroute_9l1.out bw_t_29)
              clear bw_t_29
              replace H := guard_hid H
              obtain ⟨hlt_30, H⟩ := H
              replace H := let_hid H
              obtain ⟨t_30, ht_30, H⟩ := H
              have hht_30 := Lib.hid ht_30
              clear ht_30
              have hst_30 := HBw_t_29.out.size
              go_wp2_with (at_builtin; refine wpList_append_own_at _ rfl _ _ 48 rfl w.heap.size 3 i0_3 (.int .i64 0) 1 8 Try.underlying48 hi_3 hz0_3 hz1_3 hz2_3 rfl (by decide) _ _ _ rfl Oroute_9l1.out ⟨Y5.heap.size, 0, none⟩ 1 1 [.int .i64 (k1 : Int)] rfl rfl (news_new hw_t_29) (one_cells rfl) (by unfold maxLen; omega) (by omega) hst_30 ?_; intro vt_30 wt_30 ot_30 gt_30 zt_30 yt_30; clear zt_30; obtain ⟨qt_30, ct_30, rfl, pt_30⟩ := own_push hht_30.out (Go.Proofs.Ytlljmgphgmklcaa.HelpInt.iv_snoc _ _) rfl ot_30; have Pt_30 := Lib.hid pt_30; have Yt_30 := Lib.hid yt_30; have Gt_30 := Lib.hid gt_30; clear ot_30 gt_30 pt_30 yt_30; refine stop_in ?_)
              refine stop_out ?_
              have HBwt_30 := Lib.hid (HBw_t_29.out.grown Gt_30.out hst_30 (fun q hq => (Oroute_9l1.out.lt q hq).1))
              clear hst_30
              have Dt_30_latest_0 : Hid (Apart (some ⟨qt_30, 0, none⟩) _) := Lib.hid (apart_app Droute_9l1_latest_0.out (fun a_ ha_ => (own_lt Olatest_0.out a_ ha_).2) Yt_30.out)
              have Dt_30_x_11 : Hid (Apart (some ⟨qt_30, 0, none⟩) _) := Lib.hid (apart_app (Apart.symm Dx_11_route_9l1.out) (fun a_ ha_ => by cases ha_; exact cell_lt kx_11_0__666) Yt_30.out)
              replace ct_9_0__662 := cell_other ct_9_0__662 Gt_30.out (apart_old Oroute_9l1.out ltt_9)
              replace ct_9_1__663 := cell_other ct_9_1__663 Gt_30.out (apart_old Oroute_9l1.out ltt_9)
              replace ct_9_2__664 := cell_other ct_9_2__664 Gt_30.out (apart_old Oroute_9l1.out ltt_9)
              replace ct_9_3__665 := cell_other ct_9_3__665 Gt_30.out (apart_old Oroute_9l1.out ltt_9)
              replace kx_11_0__666 := cell_other kx_11_0__666 Gt_30.out (Apart.symm Dx_11_route_9l1.out)
              replace kx_11_1__667 := cell_other kx_11_1__667 Gt_30.out (Apart.symm Dx_11_route_9l1.out)
              replace kx_11_2__668 := cell_other kx_11_2__668 Gt_30.out (Apart.symm Dx_11_route_9l1.out)
              replace kx_11_3__669 := cell_other kx_11_3__669 Gt_30.out (Apart.symm Dx_11_route_9l1.out)
              replace ct_23_0__670 := cell_other ct_23_0__670 Gt_30.out Droute_9l1_latest_0.out
              replace Olatest_0 := Lib.hid (own_other Olatest_0.out Gt_30.out Droute_9l1_latest_0.out)
              clear ct_9_0__658 ct_9_1__659 ct_9_2__660 ct_9_3__661 kx_11_0 kx_11_1 kx_11_2 kx_11_3 ct_23_0
              clear Oroute_9l1 Yt_30 Gt_30
              go_wp2_with fail
              have Hct_9_0__662 := Lib.hid ct_9_0__662
              replace ct_9_0__662 := cell_regrown ct_9_0__662
              have Hct_9_1__663 := Lib.hid ct_9_1__663
              replace ct_9_1__663 := cell_regrown ct_9_1__663
              have Hct_9_2__664 := Lib.hid ct_9_2__664
              replace ct_9_2__664 := cell_regrown ct_9_2__664
              have Hct_9_3__665 := Lib.hid ct_9_3__665
              replace ct_9_3__665 := cell_regrown ct_9_3__665
              have Hkx_11_0__666 := Lib.hid kx_11_0__666
              replace kx_11_0__666 := cell_regrown kx_11_0__666
              have Hkx_11_1__667 := Lib.hid kx_11_1__667
              replace kx_11_1__667 := cell_regrown kx_11_1__667
              have Hkx_11_2__668 := Lib.hid kx_11_2__668
              replace kx_11_2__668 := cell_regrown kx_11_2__668
              have Hkx_11_3__669 := Lib.hid kx_11_3__669
              replace kx_11_3__669 := cell_regrown kx_11_3__669
              have Hct_23_0__670 := Lib.hid ct_23_0__670
              replace ct_23_0__670 := cell_regrown ct_23_0__670
              refine wp_region_quiet_below (by kernel_rfl) (by kernel_rfl) ?_
              repeat (go_big_quiet_step (fail))
              refine wpQuiet_nil ?_
              intro Y7 hY7
              replace hY7 := below_class hY7
              replace ct_9_0__662 := Hct_9_0__662.out
              clear Hct_9_0__662
              replace ct_9_1__663 := Hct_9_1__663.out
              clear Hct_9_1__663
              replace ct_9_2__664 := Hct_9_2__664.out
              clear Hct_9_2__664
              replace ct_9_3__665 := Hct_9_3__665.out
              clear Hct_9_3__665
              replace kx_11_0__666 := Hkx_11_0__666.out
              clear Hkx_11_0__666
              replace kx_11_1__667 := Hkx_11_1__667.out
              clear Hkx_11_1__667
              replace kx_11_2__668 := Hkx_11_2__668.out
              clear Hkx_11_2__668
              replace kx_11_3__669 := Hkx_11_3__669.out
              clear Hkx_11_3__669
              replace ct_23_0__670 := Hct_23_0__670.out
              clear Hct_23_0__670
              have HBY7 := Lib.hid (Below.step HBwt_30.out hY7)
              replace ct_9_0__662 := cell_below hY7 ct_9_0__662
              replace ct_9_1__663 := cell_below hY7 ct_9_1__663
              replace ct_9_2__664 := cell_below hY7 ct_9_2__664
              replace ct_9_3__665 := cell_below hY7 ct_9_3__665
              replace kx_11_0__666 := cell_below hY7 kx_11_0__666
              replace kx_11_1__667 := cell_below hY7 kx_11_1__667
              replace kx_11_2__668 := cell_below hY7 kx_11_2__668
              replace kx_11_3__669 := cell_below hY7 kx_11_3__669
              replace ct_23_0__670 := cell_below hY7 ct_23_0__670
              replace Olatest_0 := Lib.hid (own_below Olatest_0.out hY7)
              replace Pt_30 := Lib.hid (own_below Pt_30.out hY7)
              clear hY7
              replace H := app_hid H
              go_wp2_with fail
              refine wp_goto ?_
              simp only [Exit.then, Exit.inBlock, Exit.jump, true_and]
              refine Go.Proofs.Ytlljmgphgmklcaa.GoA.handed_goto hJg_ m0 ?measure rfl ?rel
              case measure => omega
              case rel => exact ⟨_, _, _, _, _, rfl, rfl, rfl, H, HBY7, Pt_30, Olatest_0, Lib.hid Dt_30_latest_0.out⟩
end Go.Proofs.Ytlljmgphgmklcaa.GiFirstRoute

/- loop.example/g01062/impl.BestRoute as a plain function, and the contract of the program's: where the plain one has an answer, the program has it. Conditions: slices read as lists. -/
namespace Go.Proofs.Ytlljmgphgmklcaa.GiBestRoute
set_option linter.unusedVariables false
set_option linter.unusedSimpArgs false
open Go.RowKit
open Go.Proofs.Ytlljmgphgmklcaa.Rowed Go.Proofs.Ytlljmgphgmklcaa.Turn Go.Proofs.Ytlljmgphgmklcaa.Aid Go.Proofs.Ytlljmgphgmklcaa.GoP Go.Proofs.Ytlljmgphgmklcaa.GoM

def P (fuel : Nat) (list : (List Go.Proofs.Ytlljmgphgmklcaa.PMail.Mail)) (from_1 : Int) (minute : Int) (to_3 : Int) : Option ((List Int) × Bool) :=
  bind2 (Go.Proofs.Ytlljmgphgmklcaa.GiEarliestAt.P list from_1 minute to_3) fun (t_6a : Int) (t_6b : Bool) =>
  letK (!t_6b) fun (t_13 : Bool) =>
  iteK t_13
  (some (([] : List Int), false))
  (Option.bind (Go.Proofs.Ytlljmgphgmklcaa.GiLatestMinutes.P fuel list to_3 t_6a) fun (t_23 : Go.Proofs.Ytlljmgphgmklcaa.PIntA10.IntA10) =>
  unIntA10 t_23 fun (t_23_x0 : Int) (t_23_x1 : Int) (t_23_x2 : Int) (t_23_x3 : Int) (t_23_x4 : Int) (t_23_x5 : Int) (t_23_x6 : Int) (t_23_x7 : Int) (t_23_x8 : Int) (t_23_x9 : Int) =>
  Option.bind (Go.Proofs.Ytlljmgphgmklcaa.GiFirstRoute.P fuel list from_1 minute (Go.Proofs.Ytlljmgphgmklcaa.PIntA10.IntA10.mk t_23_x0 t_23_x1 t_23_x2 t_23_x3 t_23_x4 t_23_x5 t_23_x6 t_23_x7 t_23_x8 t_23_x9)) fun (t_24 : (List Int)) =>
  some (t_24, true))

set_option maxRecDepth 100000 in
set_option maxHeartbeats 2000000 in
theorem C (fuel : Nat) (list : (List Go.Proofs.Ytlljmgphgmklcaa.PMail.Mail)) (from_1 : Int) (minute : Int) (to_3 : Int) (A0 : Option Addr) (c0 : Nat)  (w : World) (M0 : Hid (Cells w 4 A0 list.length (Go.Proofs.Ytlljmgphgmklcaa.PMail.flat list))) (N0 : Hid (list.length ≤ 9223372036854775807))  {r0 : (List Int)} {r1 : Bool} (H : Hid (P fuel list from_1 minute to_3 = some (r0, r1))) :
    Calls Try.prog 106 #[.slice A0 list.length c0, .int .i64 from_1, .int .i64 minute, .int .i64 to_3] w (fun e w' => ∃ A_r0 c_r0, e = .returned (.tuple #[.slice A_r0 r0.length c_r0, .bool r1]) ∧ w'.ownsRow w.heap.size 3 1 (.slice A_r0 r0.length c_r0) r0.length (Go.Proofs.Ytlljmgphgmklcaa.HelpInt.iv r0) ∧ Below w.heap.size w w') := by
  have HB := Lib.hid (Below.refl w.heap.size w)
  unfold P at H
  have N0o := N0.out
  go_enter Try.func106, Try.ntmps106
  replace H := bind2_hid H
  obtain ⟨t_6a, t_6b, qt_6, H⟩ := H
  go_wp2_with fail
  go_at_call 151
  refine (Go.Proofs.Ytlljmgphgmklcaa.GiEarliestAt.C (list) (from_1) (minute) (to_3) A0 c0 _   (Lib.hid (Cells.below M0.out HB.out)) N0 qt_6).mono ?_
  rintro e_t_6 wt_6 ⟨rfl, bt_6⟩
  have HBwt_6 := Lib.hid (Below.step HB.out bt_6)
  clear bt_6
  cases t_6b with
  | false =>
    replace H := let_hid H
    obtain ⟨t_13, ht_13, H⟩ := H
    obtain rfl : t_13 = true := ht_13.symm
    replace H := ite_t H
    obtain ⟨w_t_14, hw_t_14⟩ : ∃ x, wt_6.alloc (.cells #[] 3) = x := ⟨_, rfl⟩
    have bw_t_14 : Below wt_6.heap.size wt_6 w_t_14 := by rw [← hw_t_14]; exact (Below.refl _ _).alloc (Nat.le_refl _) _
    have Ot_14 : Hid (w_t_14.ownsRow w.heap.size 3 1 (.slice (some ⟨wt_6.heap.size, 0, none⟩) 0 0) 0 []) := Lib.hid (by rw [← hw_t_14]; exact own_empty HBwt_6.out.size)
    have HBw_t_14 := Lib.hid (Below.step HBwt_6.out bw_t_14)
    clear bw_t_14
    cases ret_hid H
    go_wp2_with fail
    go_ret2
    exact ⟨(some ⟨wt_6.heap.size, 0, none⟩), 0, rfl, Ot_14.out, HBw_t_14.out⟩
  | true =>
    replace H := let_hid H
    obtain ⟨t_13, ht_13, H⟩ := H
    obtain rfl : t_13 = false := ht_13.symm
    replace H := ite_f H
    replace H := bind_hid H
    obtain ⟨t_23, qt_23, H⟩ := H
    obtain ⟨t_23_x0, t_23_x1, t_23_x2, t_23_x3, t_23_x4, t_23_x5, t_23_x6, t_23_x7, t_23_x8, t_23_x9⟩ := t_23
    replace H := unIntA10_hid H
    go_wp2_with fail
    go_at_call 108
    refine (Go.Proofs.Ytlljmgphgmklcaa.GiLatestMinutes.C fuel (list) (to_3) (t_6a) A0 c0 _   (Lib.hid (Cells.below M0.out HBwt_6.out)) N0 qt_23).mono ?_
    rintro e_t_23 wt_23 ⟨rfl, bt_23⟩
    unfold Go.Proofs.Ytlljmgphgmklcaa.PIntA10.IntA10.val
    have HBwt_23 := Lib.hid (Below.step HBwt_6.out bt_23)
    clear bt_23
    replace H := bind_hid H
    obtain ⟨t_24, qt_24, H⟩ := H
    go_wp2_with fail
    go_at_call 152
    refine (Go.Proofs.Ytlljmgphgmklcaa.GiFirstRoute.C fuel (list) (from_1) (minute) ((Go.Proofs.Ytlljmgphgmklcaa.PIntA10.IntA10.mk t_23_x0 t_23_x1 t_23_x2 t_23_x3 t_23_x4 t_23_x5 t_23_x6 t_23_x7 t_23_x8 t_23_x9)) A0 c0 _   (Lib.hid (Cells.below M0.out HBwt_23.out)) N0 qt_24).mono ?_
    rintro e_t_24 wt_24 ⟨At_24, ct_24, rfl, ot_24, bt_24⟩
    have Ot_24 := Lib.hid (own_lower ot_24 HBwt_23.out.size)
    clear ot_24
    have HBwt_24 := Lib.hid (Below.step HBwt_23.out bt_24)
    clear bt_24
    cases ret_hid H
    go_wp2_with fail
    go_ret2
    exact ⟨At_24, ct_24, rfl, Ot_24.out, HBwt_24.out⟩
end Go.Proofs.Ytlljmgphgmklcaa.GiBestRoute

/- loop.example/g01062/impl.RouteOn as a plain function, and the contract of the program's: where the plain one has an answer, the program has it. Conditions: slices read as lists. -/
namespace Go.Proofs.Ytlljmgphgmklcaa.GiRouteOn
set_option linter.unusedVariables false
set_option linter.unusedSimpArgs false
open Go.RowKit
open Go.Proofs.Ytlljmgphgmklcaa.Rowed Go.Proofs.Ytlljmgphgmklcaa.Turn Go.Proofs.Ytlljmgphgmklcaa.Aid Go.Proofs.Ytlljmgphgmklcaa.GoP Go.Proofs.Ytlljmgphgmklcaa.GoM

def P (fuel : Nat) (mails : (List Go.Proofs.Ytlljmgphgmklcaa.PMail.Mail)) (x : Go.Proofs.Ytlljmgphgmklcaa.PCover.Cover) : Option ((List Int) × Bool) :=
  unCover x fun (x_id : Int) (x_day : Int) (x_zone : Int) (x_grams : Int) (x_paid : Int) (x_from_ : Int) (x_to_ : Int) (x_leave : Int) (x_arrive : Int) =>
  Option.bind (Go.Proofs.Ytlljmgphgmklcaa.GiIsTimetable.P mails) fun (t_4 : Bool) =>
  letK (!t_4) fun (t_5 : Bool) =>
  joinK (fun (t_10 : Bool) =>
  joinK (fun (t_18 : Bool) =>
  iteK t_18
  (some (([] : List Int), false))
  (bind2 (Go.Proofs.Ytlljmgphgmklcaa.GiBestRoute.P fuel mails x_from_ x_leave x_to_) fun (t_29a : (List Int)) (t_29b : Bool) =>
  some (t_29a, t_29b))) fun jt_18 => iteK t_10 (appK jt_18 true) (Option.bind (Go.Proofs.Ytlljmgphgmklcaa.GiEarliestEnd.P mails (Go.Proofs.Ytlljmgphgmklcaa.PCover.Cover.mk x_id x_day x_zone x_grams x_paid x_from_ x_to_ x_leave x_arrive)) fun (t_14 : Int) =>
  letK (decide (x_arrive < t_14)) fun (t_17 : Bool) =>
  appK jt_18 t_17)) fun jt_10 => iteK t_5 (appK jt_10 true) (Option.bind (Go.Proofs.Ytlljmgphgmklcaa.GiIsCover.P (Go.Proofs.Ytlljmgphgmklcaa.PCover.Cover.mk x_id x_day x_zone x_grams x_paid x_from_ x_to_ x_leave x_arrive)) fun (t_8 : Bool) =>
  letK (!t_8) fun (t_9 : Bool) =>
  appK jt_10 t_9)

set_option maxRecDepth 100000 in
set_option maxHeartbeats 2000000 in
theorem C (fuel : Nat) (mails : (List Go.Proofs.Ytlljmgphgmklcaa.PMail.Mail)) (x : Go.Proofs.Ytlljmgphgmklcaa.PCover.Cover) (A0 : Option Addr) (c0 : Nat)  (w : World) (M0 : Hid (Cells w 4 A0 mails.length (Go.Proofs.Ytlljmgphgmklcaa.PMail.flat mails))) (N0 : Hid (mails.length ≤ 9223372036854775807))  {r0 : (List Int)} {r1 : Bool} (H : Hid (P fuel mails x = some (r0, r1))) :
    Calls Try.prog 46 #[.slice A0 mails.length c0, x.val] w (fun e w' => ∃ A_r0 c_r0, e = .returned (.tuple #[.slice A_r0 r0.length c_r0, .bool r1]) ∧ w'.ownsRow w.heap.size 3 1 (.slice A_r0 r0.length c_r0) r0.length (Go.Proofs.Ytlljmgphgmklcaa.HelpInt.iv r0) ∧ Below w.heap.size w w') := by
  have HB := Lib.hid (Below.refl w.heap.size w)
  unfold P at H
  obtain ⟨x_id, x_day, x_zone, x_grams, x_paid, x_from_, x_to_, x_leave, x_arrive⟩ := x
  replace H := unCover_hid H
  unfold Go.Proofs.Ytlljmgphgmklcaa.PCover.Cover.val
  have N0o := N0.out
  go_enter Try.func46, Try.ntmps46
  obtain ⟨w_x_0, hw_x_0⟩ : ∃ x, w.alloc (.cells #[.int .i64 x_id, .int .i64 x_day, .int .i64 x_zone, .int .i64 x_grams, .int .i64 x_paid, .int .i64 x_from_, .int .i64 x_to_, .int .i64 x_leave, .int .i64 x_arrive] 25) = x := ⟨_, rfl⟩
  have bw_x_0 : Below w.heap.size w w_x_0 := by rw [← hw_x_0]; exact (Below.refl _ _).alloc (Nat.le_refl _) _
  have HBw_x_0 := Lib.hid (Below.step HB.out bw_x_0)
  clear bw_x_0
  have kx_0_0 : w_x_0.cell? ⟨w.heap.size, 0, none⟩ = some (.int .i64 x_id) := by rw [← hw_x_0]; exact box_new _ _ _ 0 _ rfl
  have kx_0_1 : w_x_0.cell? ⟨w.heap.size, 1, none⟩ = some (.int .i64 x_day) := by rw [← hw_x_0]; exact box_new _ _ _ 1 _ rfl
  have kx_0_2 : w_x_0.cell? ⟨w.heap.size, 2, none⟩ = some (.int .i64 x_zone) := by rw [← hw_x_0]; exact box_new _ _ _ 2 _ rfl
  have kx_0_3 : w_x_0.cell? ⟨w.heap.size, 3, none⟩ = some (.int .i64 x_grams) := by rw [← hw_x_0]; exact box_new _ _ _ 3 _ rfl
  have kx_0_4 : w_x_0.cell? ⟨w.heap.size, 4, none⟩ = some (.int .i64 x_paid) := by rw [← hw_x_0]; exact box_new _ _ _ 4 _ rfl
  have kx_0_5 : w_x_0.cell? ⟨w.heap.size, 5, none⟩ = some (.int .i64 x_from_) := by rw [← hw_x_0]; exact box_new _ _ _ 5 _ rfl
  have kx_0_6 : w_x_0.cell? ⟨w.heap.size, 6, none⟩ = some (.int .i64 x_to_) := by rw [← hw_x_0]; exact box_new _ _ _ 6 _ rfl
  have kx_0_7 : w_x_0.cell? ⟨w.heap.size, 7, none⟩ = some (.int .i64 x_leave) := by rw [← hw_x_0]; exact box_new _ _ _ 7 _ rfl
  have kx_0_8 : w_x_0.cell? ⟨w.heap.size, 8, none⟩ = some (.int .i64 x_arrive) := by rw [← hw_x_0]; exact box_new _ _ _ 8 _ rfl
  go_wp2_with fail
  have Hkx_0_0 := Lib.hid kx_0_0
  replace kx_0_0 := cell_regrown kx_0_0
  have Hkx_0_1 := Lib.hid kx_0_1
  replace kx_0_1 := cell_regrown kx_0_1
  have Hkx_0_2 := Lib.hid kx_0_2
  replace kx_0_2 := cell_regrown kx_0_2
  have Hkx_0_3 := Lib.hid kx_0_3
  replace kx_0_3 := cell_regrown kx_0_3
  have Hkx_0_4 := Lib.hid kx_0_4
  replace kx_0_4 := cell_regrown kx_0_4
  have Hkx_0_5 := Lib.hid kx_0_5
  replace kx_0_5 := cell_regrown kx_0_5
  have Hkx_0_6 := Lib.hid kx_0_6
  replace kx_0_6 := cell_regrown kx_0_6
  have Hkx_0_7 := Lib.hid kx_0_7
  replace kx_0_7 := cell_regrown kx_0_7
  have Hkx_0_8 := Lib.hid kx_0_8
  replace kx_0_8 := cell_regrown kx_0_8
  replace H := bind_hid H
  obtain ⟨t_4, qt_4, H⟩ := H
  have nt_4 : ∀ d os, Calls Try.prog 104 #[.slice A0 mails.length c0] (Go.Sort.grow (redrawn w_x_0 d) os) fun e w'' => e = .returned (.bool t_4) ∧ ∃ p : Regrown, w'' = Go.Sort.grow (redrawn w_x_0 p.d) p.os := fun d os => Calls.regrown_of (Go.Proofs.Ytlljmgphgmklcaa.GiIsTimetable.C (mails) A0 c0 _   (Lib.hid (Cells.below (Cells.below M0.out HBw_x_0.out) (below_regrown _ _ _))) N0 qt_4)
  cases t_4 with
  | false =>
    replace H := let_hid H
    obtain ⟨t_5, ht_5, H⟩ := H
    obtain rfl : t_5 = true := ht_5.symm
    replace H := join_hid H
    replace H := ite_t H
    replace H := app_hid H
    replace H := join_hid H
    replace H := ite_t H
    replace H := app_hid H
    refine wp_region_quiet_below (by kernel_rfl) (by kernel_rfl) ?_
    repeat (go_big_quiet_step (first | (go_at_call 104; exact nt_4 _ _)))
    refine wpQuiet_nil ?_
    intro Y1 hY1
    replace hY1 := below_class hY1
    clear nt_4
    replace kx_0_0 := Hkx_0_0.out
    clear Hkx_0_0
    replace kx_0_1 := Hkx_0_1.out
    clear Hkx_0_1
    replace kx_0_2 := Hkx_0_2.out
    clear Hkx_0_2
    replace kx_0_3 := Hkx_0_3.out
    clear Hkx_0_3
    replace kx_0_4 := Hkx_0_4.out
    clear Hkx_0_4
    replace kx_0_5 := Hkx_0_5.out
    clear Hkx_0_5
    replace kx_0_6 := Hkx_0_6.out
    clear Hkx_0_6
    replace kx_0_7 := Hkx_0_7.out
    clear Hkx_0_7
    replace kx_0_8 := Hkx_0_8.out
    clear Hkx_0_8
    have HBY1 := Lib.hid (Below.step HBw_x_0.out hY1)
    replace kx_0_0 := cell_below hY1 kx_0_0
    replace kx_0_1 := cell_below hY1 kx_0_1
    replace kx_0_2 := cell_below hY1 kx_0_2
    replace kx_0_3 := cell_below hY1 kx_0_3
    replace kx_0_4 := cell_below hY1 kx_0_4
    replace kx_0_5 := cell_below hY1 kx_0_5
    replace kx_0_6 := cell_below hY1 kx_0_6
    replace kx_0_7 := cell_below hY1 kx_0_7
    replace kx_0_8 := cell_below hY1 kx_0_8
    clear hY1
    replace H := ite_t H
    obtain ⟨w_t_19, hw_t_19⟩ : ∃ x, Y1.alloc (.cells #[] 3) = x := ⟨_, rfl⟩
    have bw_t_19 : Below Y1.heap.size Y1 w_t_19 := by rw [← hw_t_19]; exact (Below.refl _ _).alloc (Nat.le_refl _) _
    have Ot_19 : Hid (w_t_19.ownsRow w.heap.size 3 1 (.slice (some ⟨Y1.heap.size, 0, none⟩) 0 0) 0 []) := Lib.hid (by rw [← hw_t_19]; exact own_empty HBY1.out.size)
    have Dt_19_x_0 := Lib.hid (apart_box kx_0_0)
    have HBw_t_19 := Lib.hid (Below.step HBY1.out bw_t_19)
    have kx_0_0__671 := cell_below bw_t_19 kx_0_0
    have kx_0_1__672 := cell_below bw_t_19 kx_0_1
    have kx_0_2__673 := cell_below bw_t_19 kx_0_2
    have kx_0_3__674 := cell_below bw_t_19 kx_0_3
    have kx_0_4__675 := cell_below bw_t_19 kx_0_4
    have kx_0_5__676 := cell_below bw_t_19 kx_0_5
    have kx_0_6__677 := cell_below bw_t_19 kx_0_6
    have kx_0_7__678 := cell_below bw_t_19 kx_0_7
    have kx_0_8__679 := cell_below bw_t_19 kx_0_8
    clear bw_t_19
    cases ret_hid H
    go_wp2_with fail
    go_ret2
    exact ⟨(some ⟨Y1.heap.size, 0, none⟩), 0, rfl, Ot_19.out, HBw_t_19.out⟩
  | true =>
    replace H := let_hid H
    obtain ⟨t_5, ht_5, H⟩ := H
    obtain rfl : t_5 = false := ht_5.symm
    replace H := join_hid H
    replace H := ite_f H
    replace H := bind_hid H
    obtain ⟨t_8, qt_8, H⟩ := H
    have nt_8 : ∀ d os, Calls Try.prog 18 #[.agg #[.int .i64 x_id, .int .i64 x_day, .int .i64 x_zone, .int .i64 x_grams, .int .i64 x_paid, .int .i64 x_from_, .int .i64 x_to_, .int .i64 x_leave, .int .i64 x_arrive]] (Go.Sort.grow (redrawn w_x_0 d) os) fun e w'' => e = .returned (.bool t_8) ∧ ∃ p : Regrown, w'' = Go.Sort.grow (redrawn w_x_0 p.d) p.os := fun d os => Calls.regrown_of (Go.Proofs.Ytlljmgphgmklcaa.GiIsCover.C ((Go.Proofs.Ytlljmgphgmklcaa.PCover.Cover.mk x_id x_day x_zone x_grams x_paid x_from_ x_to_ x_leave x_arrive))  _    qt_8)
    cases t_8 with
    | false =>
      replace H := let_hid H
      obtain ⟨t_9, ht_9, H⟩ := H
      obtain rfl : t_9 = true := ht_9.symm
      replace H := app_hid H
      replace H := join_hid H
      replace H := ite_t H
      replace H := app_hid H
      refine wp_region_quiet_below (by kernel_rfl) (by kernel_rfl) ?_
      repeat (go_big_quiet_step (first | (go_at_call 104; exact nt_4 _ _) | (go_at_call 18; exact nt_8 _ _)))
      refine wpQuiet_nil ?_
      intro Y1 hY1
      replace hY1 := below_class hY1
      clear nt_4 nt_8
      replace kx_0_0 := Hkx_0_0.out
      clear Hkx_0_0
      replace kx_0_1 := Hkx_0_1.out
      clear Hkx_0_1
      replace kx_0_2 := Hkx_0_2.out
      clear Hkx_0_2
      replace kx_0_3 := Hkx_0_3.out
      clear Hkx_0_3
      replace kx_0_4 := Hkx_0_4.out
      clear Hkx_0_4
      replace kx_0_5 := Hkx_0_5.out
      clear Hkx_0_5
      replace kx_0_6 := Hkx_0_6.out
      clear Hkx_0_6
      replace kx_0_7 := Hkx_0_7.out
      clear Hkx_0_7
      replace kx_0_8 := Hkx_0_8.out
      clear Hkx_0_8
      have HBY1 := Lib.hid (Below.step HBw_x_0.out hY1)
      replace kx_0_0 := cell_below hY1 kx_0_0
      replace kx_0_1 := cell_below hY1 kx_0_1
      replace kx_0_2 := cell_below hY1 kx_0_2
      replace kx_0_3 := cell_below hY1 kx_0_3
      replace kx_0_4 := cell_below hY1 kx_0_4
      replace kx_0_5 := cell_below hY1 kx_0_5
      replace kx_0_6 := cell_below hY1 kx_0_6
      replace kx_0_7 := cell_below hY1 kx_0_7
      replace kx_0_8 := cell_below hY1 kx_0_8
      clear hY1
      replace H := ite_t H
      obtain ⟨w_t_19, hw_t_19⟩ : ∃ x, Y1.alloc (.cells #[] 3) = x := ⟨_, rfl⟩
      have bw_t_19 : Below Y1.heap.size Y1 w_t_19 := by rw [← hw_t_19]; exact (Below.refl _ _).alloc (Nat.le_refl _) _
      have Ot_19 : Hid (w_t_19.ownsRow w.heap.size 3 1 (.slice (some ⟨Y1.heap.size, 0, none⟩) 0 0) 0 []) := Lib.hid (by rw [← hw_t_19]; exact own_empty HBY1.out.size)
      have Dt_19_x_0 := Lib.hid (apart_box kx_0_0)
      have HBw_t_19 := Lib.hid (Below.step HBY1.out bw_t_19)
      have kx_0_0__680 := cell_below bw_t_19 kx_0_0
      have kx_0_1__681 := cell_below bw_t_19 kx_0_1
      have kx_0_2__682 := cell_below bw_t_19 kx_0_2
      have kx_0_3__683 := cell_below bw_t_19 kx_0_3
      have kx_0_4__684 := cell_below bw_t_19 kx_0_4
      have kx_0_5__685 := cell_below bw_t_19 kx_0_5
      have kx_0_6__686 := cell_below bw_t_19 kx_0_6
      have kx_0_7__687 := cell_below bw_t_19 kx_0_7
      have kx_0_8__688 := cell_below bw_t_19 kx_0_8
      clear bw_t_19
      cases ret_hid H
      go_wp2_with fail
      go_ret2
      exact ⟨(some ⟨Y1.heap.size, 0, none⟩), 0, rfl, Ot_19.out, HBw_t_19.out⟩
    | true =>
      replace H := let_hid H
      obtain ⟨t_9, ht_9, H⟩ := H
      obtain rfl : t_9 = false := ht_9.symm
      replace H := app_hid H
      replace H := join_hid H
      replace H := ite_f H
      replace H := bind_hid H
      obtain ⟨t_14, qt_14, H⟩ := H
      have nt_14 : ∀ d os, Calls Try.prog 105 #[.slice A0 mails.length c0, .agg #[.int .i64 x_id, .int .i64 x_day, .int .i64 x_zone, .int .i64 x_grams, .int .i64 x_paid, .int .i64 x_from_, .int .i64 x_to_, .int .i64 x_leave, .int .i64 x_arrive]] (Go.Sort.grow (redrawn w_x_0 d) os) fun e w'' => e = .returned (.int .i64 t_14) ∧ ∃ p : Regrown, w'' = Go.Sort.grow (redrawn w_x_0 p.d) p.os := fun d os => Calls.regrown_of (Go.Proofs.Ytlljmgphgmklcaa.GiEarliestEnd.C (mails) ((Go.Proofs.Ytlljmgphgmklcaa.PCover.Cover.mk x_id x_day x_zone x_grams x_paid x_from_ x_to_ x_leave x_arrive)) A0 c0 _   (Lib.hid (Cells.below (Cells.below M0.out HBw_x_0.out) (below_regrown _ _ _))) N0 qt_14)
      replace H := let_hid H
      obtain ⟨t_17, ht_17, H⟩ := H
      replace H := app_hid H
      refine wp_region_quiet_below (by kernel_rfl) (by kernel_rfl) ?_
      repeat (go_big_quiet_step (first | (go_at_call 104; exact nt_4 _ _) | (go_at_call 18; exact nt_8 _ _) | (go_at_call 105; exact nt_14 _ _)))
      refine wpQuiet_nil ?_
      intro Y1 hY1
      replace hY1 := below_class hY1
      clear nt_4 nt_8 nt_14
      replace kx_0_0 := Hkx_0_0.out
      clear Hkx_0_0
      replace kx_0_1 := Hkx_0_1.out
      clear Hkx_0_1
      replace kx_0_2 := Hkx_0_2.out
      clear Hkx_0_2
      replace kx_0_3 := Hkx_0_3.out
      clear Hkx_0_3
      replace kx_0_4 := Hkx_0_4.out
      clear Hkx_0_4
      replace kx_0_5 := Hkx_0_5.out
      clear Hkx_0_5
      replace kx_0_6 := Hkx_0_6.out
      clear Hkx_0_6
      replace kx_0_7 := Hkx_0_7.out
      clear Hkx_0_7
      replace kx_0_8 := Hkx_0_8.out
      clear Hkx_0_8
      have HBY1 := Lib.hid (Below.step HBw_x_0.out hY1)
      replace kx_0_0 := cell_below hY1 kx_0_0
      replace kx_0_1 := cell_below hY1 kx_0_1
      replace kx_0_2 := cell_below hY1 kx_0_2
      replace kx_0_3 := cell_below hY1 kx_0_3
      replace kx_0_4 := cell_below hY1 kx_0_4
      replace kx_0_5 := cell_below hY1 kx_0_5
      replace kx_0_6 := cell_below hY1 kx_0_6
      replace kx_0_7 := cell_below hY1 kx_0_7
      replace kx_0_8 := cell_below hY1 kx_0_8
      clear hY1
      cases t_17 with
      | false =>
        replace H := ite_f H
        replace H := bind2_hid H
        obtain ⟨t_29a, t_29b, qt_29, H⟩ := H
        go_wp2_with fail
        go_at_call 106
        refine (Go.Proofs.Ytlljmgphgmklcaa.GiBestRoute.C fuel (mails) (x_from_) (x_leave) (x_to_) A0 c0 _   (Lib.hid (Cells.below M0.out HBY1.out)) N0 qt_29).mono ?_
        rintro e_t_29 wt_29 ⟨At_29a, ct_29a, rfl, ot_29a, bt_29⟩
        have Dt_29a_x_0 := Lib.hid (apart_callbox ot_29a kx_0_0)
        have Ot_29a := Lib.hid (own_lower ot_29a HBY1.out.size)
        clear ot_29a
        have HBwt_29 := Lib.hid (Below.step HBY1.out bt_29)
        replace kx_0_0 := cell_below bt_29 kx_0_0
        replace kx_0_1 := cell_below bt_29 kx_0_1
        replace kx_0_2 := cell_below bt_29 kx_0_2
        replace kx_0_3 := cell_below bt_29 kx_0_3
        replace kx_0_4 := cell_below bt_29 kx_0_4
        replace kx_0_5 := cell_below bt_29 kx_0_5
        replace kx_0_6 := cell_below bt_29 kx_0_6
        replace kx_0_7 := cell_below bt_29 kx_0_7
        replace kx_0_8 := cell_below bt_29 kx_0_8
        clear bt_29
        cases ret_hid H
        go_wp2_with fail
        go_ret2
        exact ⟨At_29a, ct_29a, rfl, Ot_29a.out, HBwt_29.out⟩
      | true =>
        replace H := ite_t H
        obtain ⟨w_t_19, hw_t_19⟩ : ∃ x, Y1.alloc (.cells #[] 3) = x := ⟨_, rfl⟩
        have bw_t_19 : Below Y1.heap.size Y1 w_t_19 := by rw [← hw_t_19]; exact (Below.refl _ _).alloc (Nat.le_refl _) _
        have Ot_19 : Hid (w_t_19.ownsRow w.heap.size 3 1 (.slice (some ⟨Y1.heap.size, 0, none⟩) 0 0) 0 []) := Lib.hid (by rw [← hw_t_19]; exact own_empty HBY1.out.size)
        have Dt_19_x_0 := Lib.hid (apart_box kx_0_0)
        have HBw_t_19 := Lib.hid (Below.step HBY1.out bw_t_19)
        have kx_0_0__689 := cell_below bw_t_19 kx_0_0
        have kx_0_1__690 := cell_below bw_t_19 kx_0_1
        have kx_0_2__691 := cell_below bw_t_19 kx_0_2
        have kx_0_3__692 := cell_below bw_t_19 kx_0_3
        have kx_0_4__693 := cell_below bw_t_19 kx_0_4
        have kx_0_5__694 := cell_below bw_t_19 kx_0_5
        have kx_0_6__695 := cell_below bw_t_19 kx_0_6
        have kx_0_7__696 := cell_below bw_t_19 kx_0_7
        have kx_0_8__697 := cell_below bw_t_19 kx_0_8
        clear bw_t_19
        cases ret_hid H
        go_wp2_with fail
        go_ret2
        exact ⟨(some ⟨Y1.heap.size, 0, none⟩), 0, rfl, Ot_19.out, HBw_t_19.out⟩
end Go.Proofs.Ytlljmgphgmklcaa.GiRouteOn

/- loop.example/g01062/impl.CoversVia$1 as a plain function, and the contract of the program's: where the plain one has an answer, the program has it. Conditions: slices read as lists. -/
namespace Go.Proofs.Ytlljmgphgmklcaa.GiCoversVia1
set_option linter.unusedVariables false
set_option linter.unusedSimpArgs false
open Go.RowKit
open Go.Proofs.Ytlljmgphgmklcaa.Rowed Go.Proofs.Ytlljmgphgmklcaa.Turn Go.Proofs.Ytlljmgphgmklcaa.Aid Go.Proofs.Ytlljmgphgmklcaa.GoP Go.Proofs.Ytlljmgphgmklcaa.GoM

def P (index : Int) (hq0 : (List Go.Proofs.Ytlljmgphgmklcaa.PMail.Mail)) (hq1 : Int) : Option (Bool) :=
  Option.bind (idx hq0 index) fun (yt_3 : Go.Proofs.Ytlljmgphgmklcaa.PMail.Mail) =>
  unMail yt_3 fun (t_3_leave : Int) (t_3_from_ : Int) (t_3_to_ : Int) (t_3_arrive : Int) =>
  letK (t_3_to_ == hq1) fun (t_7 : Bool) =>
  some t_7

set_option maxRecDepth 100000 in
set_option maxHeartbeats 2000000 in
theorem C (index : Int) (hq0 : (List Go.Proofs.Ytlljmgphgmklcaa.PMail.Mail)) (hq1 : Int) (Ahq0 : Option Addr) (chq0 : Nat) (gq0 : Nat) (gq1 : Nat) (w : World) (Mhq0 : Hid (Cells w 4 Ahq0 hq0.length (Go.Proofs.Ytlljmgphgmklcaa.PMail.flat hq0))) (Nhq0 : Hid (hq0.length ≤ 9223372036854775807)) (Fq0h : Hid (w.cell? ⟨gq0, 0, none⟩ = some (.slice Ahq0 hq0.length chq0))) (Fq1h : Hid (w.cell? ⟨gq1, 0, none⟩ = some (.int .i64 hq1))) {r : Bool} (H : Hid (P index hq0 hq1 = some r)) :
    Calls Try.prog 110 #[.int .i64 index, .pointer (some ⟨gq0, 0, none⟩), .pointer (some ⟨gq1, 0, none⟩)] w (Gives (.bool r) w) := by
  have HB := Lib.hid (Below.refl w.heap.size w)
  unfold P at H
  have Nhq0o := Nhq0.out
  have Fq0 := Fq0h.out
  have Fq1 := Fq1h.out
  go_enter Try.func110, Try.ntmps110
  go_wp2_with fail
  have HFq0 := Lib.hid Fq0
  replace Fq0 := cell_regrown Fq0
  have HFq1 := Lib.hid Fq1
  replace Fq1 := cell_regrown Fq1
  replace H := idx_hid H
  obtain ⟨nt_3, yt_3, et_3, lt_3, gt_3, H⟩ := H
  subst et_3
  obtain ⟨t_3_leave, t_3_from_, t_3_to_, t_3_arrive⟩ := yt_3
  replace H := unMail_hid H
  obtain ⟨ab_t_3, ao_t_3, zt_3, At_3, z_t_3, ct_3_0, ct_3_1, ct_3_2, ct_3_3⟩ := Go.Proofs.Ytlljmgphgmklcaa.OMail.at_ Mhq0.out lt_3
  obtain rfl := Option.some.inj (gt_3.out.symm.trans z_t_3)
  subst At_3
  have ltt_3 := cell_lt ct_3_0
  replace ct_3_0 := cell_below HB.out ct_3_0
  replace ct_3_1 := cell_below HB.out ct_3_1
  replace ct_3_2 := cell_below HB.out ct_3_2
  replace ct_3_3 := cell_below HB.out ct_3_3
  clear z_t_3
  have b0t_3 : (0 : Int) ≤ (nt_3 : Int) := by omega
  have b1t_3 : (nt_3 : Int) < ((hq0.length : Nat) : Int) := by omega
  have b2t_3 : ((nt_3 : Int)).toNat = nt_3 := by omega
  have Hct_3_0 := Lib.hid ct_3_0
  replace ct_3_0 := cell_regrown ct_3_0
  have Hct_3_1 := Lib.hid ct_3_1
  replace ct_3_1 := cell_regrown ct_3_1
  have Hct_3_2 := Lib.hid ct_3_2
  replace ct_3_2 := cell_regrown ct_3_2
  have Hct_3_3 := Lib.hid ct_3_3
  replace ct_3_3 := cell_regrown ct_3_3
  replace H := let_hid H
  obtain ⟨t_7, ht_7, H⟩ := H
  refine wp_region_quiet_below (by kernel_rfl) (by kernel_rfl) ?_
  repeat (go_big_quiet_step (fail))
  refine wpQuiet_nil ?_
  intro Y1 hY1
  replace hY1 := below_class hY1
  replace Fq0 := HFq0.out
  clear HFq0
  replace Fq1 := HFq1.out
  clear HFq1
  replace ct_3_0 := Hct_3_0.out
  clear Hct_3_0
  replace ct_3_1 := Hct_3_1.out
  clear Hct_3_1
  replace ct_3_2 := Hct_3_2.out
  clear Hct_3_2
  replace ct_3_3 := Hct_3_3.out
  clear Hct_3_3
  have HBY1 := Lib.hid (Below.step HB.out hY1)
  replace Fq0 := cell_below hY1 Fq0
  replace Fq1 := cell_below hY1 Fq1
  replace ct_3_0 := cell_below hY1 ct_3_0
  replace ct_3_1 := cell_below hY1 ct_3_1
  replace ct_3_2 := cell_below hY1 ct_3_2
  replace ct_3_3 := cell_below hY1 ct_3_3
  clear hY1
  obtain rfl := ret_hid H
  go_wp2_with fail
  go_ret
  exact ⟨rfl, HBY1.out⟩
end Go.Proofs.Ytlljmgphgmklcaa.GiCoversVia1

/- slices.IndexFunc[[]int,int] as a plain function, and the contract of the program's: where the plain one has an answer, the program has it. Conditions: slices read as lists. -/
namespace Go.Proofs.Ytlljmgphgmklcaa.GxSlicesIndexFuncIntIntiCoversVia1
set_option linter.unusedVariables false
set_option linter.unusedSimpArgs false
open Go.RowKit
open Go.Proofs.Ytlljmgphgmklcaa.Rowed Go.Proofs.Ytlljmgphgmklcaa.Turn Go.Proofs.Ytlljmgphgmklcaa.Aid Go.Proofs.Ytlljmgphgmklcaa.GoP Go.Proofs.Ytlljmgphgmklcaa.GoM

def l0 (s_0 : (List Int)) (hf1_0 : (List Go.Proofs.Ytlljmgphgmklcaa.PMail.Mail)) (hf1_1 : Int) (k0 : Nat) (s : Unit) (nx0 bk0 : Unit → Option (Int)) : Option (Int) :=
  
  Option.bind (idx s_0 (k0 : Int)) fun (yt_10 : Int) =>
  Option.bind (Go.Proofs.Ytlljmgphgmklcaa.GiCoversVia1.P yt_10 hf1_0 hf1_1) fun (t_12 : Bool) =>
  iteK t_12
  (some (k0 : Int))
  (appK nx0 ())

def e0  (s : Unit) : Option (Int) :=
  
  some (-1)

def P (s_0 : (List Int)) (hf1_0 : (List Go.Proofs.Ytlljmgphgmklcaa.PMail.Mail)) (hf1_1 : Int) : Option (Int) :=
  cntK (l0 s_0 hf1_0 hf1_1) (s_0.length) 0 () (e0 )

set_option maxRecDepth 100000 in
set_option maxHeartbeats 2000000 in
theorem C (s_0 : (List Int)) (hf1_0 : (List Go.Proofs.Ytlljmgphgmklcaa.PMail.Mail)) (hf1_1 : Int) (A0 : Option Addr) (c0 : Nat) (Ahf1_0 : Option Addr) (chf1_0 : Nat) (gf1_0 : Nat) (gf1_1 : Nat) (w : World) (M0 : Hid (Cells w 1 A0 s_0.length (Go.Proofs.Ytlljmgphgmklcaa.HelpInt.iv s_0))) (N0 : Hid (s_0.length ≤ 9223372036854775807)) (Mhf1_0 : Hid (Cells w 4 Ahf1_0 hf1_0.length (Go.Proofs.Ytlljmgphgmklcaa.PMail.flat hf1_0))) (Nhf1_0 : Hid (hf1_0.length ≤ 9223372036854775807)) (Ff1_0h : Hid (w.cell? ⟨gf1_0, 0, none⟩ = some (.slice Ahf1_0 hf1_0.length chf1_0))) (Ff1_1h : Hid (w.cell? ⟨gf1_1, 0, none⟩ = some (.int .i64 hf1_1))) {r : Int} (H : Hid (P s_0 hf1_0 hf1_1 = some r)) :
    Calls Try.prog 155 #[.slice A0 s_0.length c0, .func (.func 110) #[] #[.pointer (some ⟨gf1_0, 0, none⟩), .pointer (some ⟨gf1_1, 0, none⟩)]] w (Gives (.int .i64 r) w) := by
  have HB := Lib.hid (Below.refl w.heap.size w)
  unfold P at H
  have N0o := N0.out
  have Nhf1_0o := Nhf1_0.out
  have Ff1_0 := Ff1_0h.out
  have Ff1_1 := Ff1_1h.out
  go_enter Try.func155, Try.ntmps155
  go_wp2_with fail
  go_loopg [8] (s_0.length) (fun m_ v8_ wr => ∃ (k0 : Nat) , k0 + m_ = s_0.length ∧ v8_ = .int .i64 (k0 : Int) ∧ Hid (cntK (l0 s_0 hf1_0 hf1_1) m_ k0 () (e0 ) = some r) ∧ Hid (Below w.heap.size w wr) ∧ wr.cell? ⟨gf1_0, 0, none⟩ = some (.slice Ahf1_0 hf1_0.length chf1_0) ∧ wr.cell? ⟨gf1_1, 0, none⟩ = some (.int .i64 hf1_1))
  case atStart => exact ⟨0, by omega, rfl, H, HB, Ff1_0, Ff1_1⟩
  case round =>
    obtain ⟨k0, hkm0, rfl, H, HBwr0, Ff1_0, Ff1_1⟩ := hrel
    rename World => wr0
    cases gk with
    | zero =>
      obtain rfl : k0 = s_0.length := by omega
      have hc0 : decide (((s_0.length : Nat) : Int) < ((s_0.length : Nat) : Int)) = false := by simp
      replace H := cnt_zero H
      unfold e0 at H
      obtain rfl := ret_hid H
      go_wp2_with fail
      go_ret
      exact ⟨rfl, HBwr0.out⟩
    | succ m0 =>
      have hlt0 : k0 < s_0.length := by omega
      have hc0 : decide ((k0 : Int) < ((s_0.length : Nat) : Int)) = true := by simp; omega
      replace H := cnt_succ H
      unfold l0 at H
      replace H := idx_hid H
      obtain ⟨nt_10, yt_10, et_10, lt_10, gt_10, H⟩ := H
      obtain rfl : k0 = nt_10 := by omega
      clear et_10
      obtain ⟨ab_t_10, ao_t_10, zt_10, At_10, z_t_10, ct_10_0⟩ := Go.Proofs.Ytlljmgphgmklcaa.HelpInt.Ints.at_ M0.out lt_10
      obtain rfl := Option.some.inj (gt_10.out.symm.trans z_t_10)
      subst At_10
      have ltt_10 := cell_lt ct_10_0
      replace ct_10_0 := cell_below HBwr0.out ct_10_0
      clear z_t_10
      have b0t_10 : (0 : Int) ≤ (k0 : Int) := by omega
      have b1t_10 : (k0 : Int) < ((s_0.length : Nat) : Int) := by omega
      have b2t_10 : ((k0 : Int)).toNat = k0 := by omega
      replace H := bind_hid H
      obtain ⟨t_12, qt_12, H⟩ := H
      go_wp2_with fail
      go_at_call 110
      refine (Go.Proofs.Ytlljmgphgmklcaa.GiCoversVia1.C (yt_10) (hf1_0) (hf1_1) Ahf1_0 chf1_0 (gf1_0) (gf1_1) _   (Lib.hid (Cells.below Mhf1_0.out HBwr0.out)) Nhf1_0 (Lib.hid Ff1_0) (Lib.hid Ff1_1) qt_12).mono ?_
      rintro e_t_12 wt_12 ⟨rfl, bt_12⟩
      have HBwt_12 := Lib.hid (Below.step HBwr0.out bt_12)
      replace Ff1_0 := cell_below bt_12 Ff1_0
      replace Ff1_1 := cell_below bt_12 Ff1_1
      replace ct_10_0 := cell_below bt_12 ct_10_0
      clear bt_12
      cases t_12 with
      | false =>
        replace H := ite_f H
        replace H := app_hid H
        go_wp2_with fail
        go_roundg m0
        case measure => omega
        case rel => exact ⟨k0 + 1, by omega, by go_num, H, HBwt_12, Ff1_0, Ff1_1⟩
      | true =>
        replace H := ite_t H
        obtain rfl := ret_hid H
        go_wp2_with fail
        go_ret
        exact ⟨rfl, HBwt_12.out⟩
end Go.Proofs.Ytlljmgphgmklcaa.GxSlicesIndexFuncIntIntiCoversVia1

/- slices.ContainsFunc[[]int,int] as a plain function, and the contract of the program's: where the plain one has an answer, the program has it. Conditions: slices read as lists. -/
namespace Go.Proofs.Ytlljmgphgmklcaa.GxSlicesContainsFuncIntIntiCoversVia1
set_option linter.unusedVariables false
set_option linter.unusedSimpArgs false
open Go.RowKit
open Go.Proofs.Ytlljmgphgmklcaa.Rowed Go.Proofs.Ytlljmgphgmklcaa.Turn Go.Proofs.Ytlljmgphgmklcaa.Aid Go.Proofs.Ytlljmgphgmklcaa.GoP Go.Proofs.Ytlljmgphgmklcaa.GoM

def P (s_0 : (List Int)) (hf1_0 : (List Go.Proofs.Ytlljmgphgmklcaa.PMail.Mail)) (hf1_1 : Int) : Option (Bool) :=
  Option.bind (Go.Proofs.Ytlljmgphgmklcaa.GxSlicesIndexFuncIntIntiCoversVia1.P s_0 hf1_0 hf1_1) fun (t_3 : Int) =>
  letK (decide (0 ≤ t_3)) fun (t_4 : Bool) =>
  some t_4

set_option maxRecDepth 100000 in
set_option maxHeartbeats 2000000 in
theorem C (s_0 : (List Int)) (hf1_0 : (List Go.Proofs.Ytlljmgphgmklcaa.PMail.Mail)) (hf1_1 : Int) (A0 : Option Addr) (c0 : Nat) (Ahf1_0 : Option Addr) (chf1_0 : Nat) (gf1_0 : Nat) (gf1_1 : Nat) (w : World) (M0 : Hid (Cells w 1 A0 s_0.length (Go.Proofs.Ytlljmgphgmklcaa.HelpInt.iv s_0))) (N0 : Hid (s_0.length ≤ 9223372036854775807)) (Mhf1_0 : Hid (Cells w 4 Ahf1_0 hf1_0.length (Go.Proofs.Ytlljmgphgmklcaa.PMail.flat hf1_0))) (Nhf1_0 : Hid (hf1_0.length ≤ 9223372036854775807)) (Ff1_0h : Hid (w.cell? ⟨gf1_0, 0, none⟩ = some (.slice Ahf1_0 hf1_0.length chf1_0))) (Ff1_1h : Hid (w.cell? ⟨gf1_1, 0, none⟩ = some (.int .i64 hf1_1))) {r : Bool} (H : Hid (P s_0 hf1_0 hf1_1 = some r)) :
    Calls Try.prog 112 #[.slice A0 s_0.length c0, .func (.func 110) #[] #[.pointer (some ⟨gf1_0, 0, none⟩), .pointer (some ⟨gf1_1, 0, none⟩)]] w (Gives (.bool r) w) := by
  have HB := Lib.hid (Below.refl w.heap.size w)
  unfold P at H
  have N0o := N0.out
  have Nhf1_0o := Nhf1_0.out
  have Ff1_0 := Ff1_0h.out
  have Ff1_1 := Ff1_1h.out
  go_enter Try.func112, Try.ntmps112
  replace H := bind_hid H
  obtain ⟨t_3, qt_3, H⟩ := H
  go_wp2_with fail
  go_at_call 155
  refine (Go.Proofs.Ytlljmgphgmklcaa.GxSlicesIndexFuncIntIntiCoversVia1.C (s_0) (hf1_0) (hf1_1) A0 c0 Ahf1_0 chf1_0 (gf1_0) (gf1_1) _   (Lib.hid (Cells.below M0.out HB.out)) N0 (Lib.hid (Cells.below Mhf1_0.out HB.out)) Nhf1_0 (Lib.hid Ff1_0) (Lib.hid Ff1_1) qt_3).mono ?_
  rintro e_t_3 wt_3 ⟨rfl, bt_3⟩
  have HBwt_3 := Lib.hid (Below.step HB.out bt_3)
  replace Ff1_0 := cell_below bt_3 Ff1_0
  replace Ff1_1 := cell_below bt_3 Ff1_1
  clear bt_3
  replace H := let_hid H
  obtain ⟨t_4, ht_4, H⟩ := H
  obtain rfl := ret_hid H
  go_wp2_with fail
  go_ret
  exact ⟨rfl, HBwt_3.out⟩
end Go.Proofs.Ytlljmgphgmklcaa.GxSlicesContainsFuncIntIntiCoversVia1

/- loop.example/g01062/impl.CoversVia$2 as a plain function, and the contract of the program's: where the plain one has an answer, the program has it. Conditions: slices read as lists. -/
namespace Go.Proofs.Ytlljmgphgmklcaa.GiCoversVia2iCoversVia1
set_option linter.unusedVariables false
set_option linter.unusedSimpArgs false
open Go.RowKit
open Go.Proofs.Ytlljmgphgmklcaa.Rowed Go.Proofs.Ytlljmgphgmklcaa.Turn Go.Proofs.Ytlljmgphgmklcaa.Aid Go.Proofs.Ytlljmgphgmklcaa.GoP Go.Proofs.Ytlljmgphgmklcaa.GoM

def P (fuel : Nat) (x : Go.Proofs.Ytlljmgphgmklcaa.PCover.Cover) (hq0 : (List Go.Proofs.Ytlljmgphgmklcaa.PMail.Mail)) (hq1i0 : (List Go.Proofs.Ytlljmgphgmklcaa.PMail.Mail)) (hq1i1 : Int) : Option (Bool) :=
  unCover x fun (x_id : Int) (x_day : Int) (x_zone : Int) (x_grams : Int) (x_paid : Int) (x_from_ : Int) (x_to_ : Int) (x_leave : Int) (x_arrive : Int) =>
  bind2 (Go.Proofs.Ytlljmgphgmklcaa.GiRouteOn.P fuel hq0 (Go.Proofs.Ytlljmgphgmklcaa.PCover.Cover.mk x_id x_day x_zone x_grams x_paid x_from_ x_to_ x_leave x_arrive)) fun (t_4a : (List Int)) (t_4b : Bool) =>
  Option.bind (Go.Proofs.Ytlljmgphgmklcaa.GxSlicesContainsFuncIntIntiCoversVia1.P t_4a hq1i0 hq1i1) fun (t_12 : Bool) =>
  some t_12

set_option maxRecDepth 100000 in
set_option maxHeartbeats 2000000 in
theorem C (fuel : Nat) (x : Go.Proofs.Ytlljmgphgmklcaa.PCover.Cover) (hq0 : (List Go.Proofs.Ytlljmgphgmklcaa.PMail.Mail)) (hq1i0 : (List Go.Proofs.Ytlljmgphgmklcaa.PMail.Mail)) (hq1i1 : Int) (Ahq0 : Option Addr) (chq0 : Nat) (Ahq1i0 : Option Addr) (chq1i0 : Nat) (gq0 : Nat) (gq1 : Nat) (gq1i0 : Nat) (gq1i1 : Nat) (w : World) (Mhq0 : Hid (Cells w 4 Ahq0 hq0.length (Go.Proofs.Ytlljmgphgmklcaa.PMail.flat hq0))) (Nhq0 : Hid (hq0.length ≤ 9223372036854775807)) (Mhq1i0 : Hid (Cells w 4 Ahq1i0 hq1i0.length (Go.Proofs.Ytlljmgphgmklcaa.PMail.flat hq1i0))) (Nhq1i0 : Hid (hq1i0.length ≤ 9223372036854775807)) (Fq0h : Hid (w.cell? ⟨gq0, 0, none⟩ = some (.slice Ahq0 hq0.length chq0))) (Fq1h : Hid (w.cell? ⟨gq1, 0, none⟩ = some (.func (.func 110) #[] #[.pointer (some ⟨gq1i0, 0, none⟩), .pointer (some ⟨gq1i1, 0, none⟩)]))) (Fq1i0h : Hid (w.cell? ⟨gq1i0, 0, none⟩ = some (.slice Ahq1i0 hq1i0.length chq1i0))) (Fq1i1h : Hid (w.cell? ⟨gq1i1, 0, none⟩ = some (.int .i64 hq1i1))) {r : Bool} (H : Hid (P fuel x hq0 hq1i0 hq1i1 = some r)) :
    Calls Try.prog 111 #[x.val, .pointer (some ⟨gq0, 0, none⟩), .pointer (some ⟨gq1, 0, none⟩)] w (Gives (.bool r) w) := by
  have HB := Lib.hid (Below.refl w.heap.size w)
  unfold P at H
  obtain ⟨x_id, x_day, x_zone, x_grams, x_paid, x_from_, x_to_, x_leave, x_arrive⟩ := x
  replace H := unCover_hid H
  unfold Go.Proofs.Ytlljmgphgmklcaa.PCover.Cover.val
  have Nhq0o := Nhq0.out
  have Nhq1i0o := Nhq1i0.out
  have Fq0 := Fq0h.out
  have Fq1 := Fq1h.out
  have Fq1i0 := Fq1i0h.out
  have Fq1i1 := Fq1i1h.out
  go_enter Try.func111, Try.ntmps111
  obtain ⟨w_x_0, hw_x_0⟩ : ∃ x, w.alloc (.cells #[.int .i64 x_id, .int .i64 x_day, .int .i64 x_zone, .int .i64 x_grams, .int .i64 x_paid, .int .i64 x_from_, .int .i64 x_to_, .int .i64 x_leave, .int .i64 x_arrive] 25) = x := ⟨_, rfl⟩
  have bw_x_0 : Below w.heap.size w w_x_0 := by rw [← hw_x_0]; exact (Below.refl _ _).alloc (Nat.le_refl _) _
  have HBw_x_0 := Lib.hid (Below.step HB.out bw_x_0)
  have Fq0__698 := cell_below bw_x_0 Fq0
  have Fq1i0__699 := cell_below bw_x_0 Fq1i0
  have Fq1i1__700 := cell_below bw_x_0 Fq1i1
  have Fq1__701 := cell_below bw_x_0 Fq1
  clear bw_x_0
  have kx_0_0 : w_x_0.cell? ⟨w.heap.size, 0, none⟩ = some (.int .i64 x_id) := by rw [← hw_x_0]; exact box_new _ _ _ 0 _ rfl
  have kx_0_1 : w_x_0.cell? ⟨w.heap.size, 1, none⟩ = some (.int .i64 x_day) := by rw [← hw_x_0]; exact box_new _ _ _ 1 _ rfl
  have kx_0_2 : w_x_0.cell? ⟨w.heap.size, 2, none⟩ = some (.int .i64 x_zone) := by rw [← hw_x_0]; exact box_new _ _ _ 2 _ rfl
  have kx_0_3 : w_x_0.cell? ⟨w.heap.size, 3, none⟩ = some (.int .i64 x_grams) := by rw [← hw_x_0]; exact box_new _ _ _ 3 _ rfl
  have kx_0_4 : w_x_0.cell? ⟨w.heap.size, 4, none⟩ = some (.int .i64 x_paid) := by rw [← hw_x_0]; exact box_new _ _ _ 4 _ rfl
  have kx_0_5 : w_x_0.cell? ⟨w.heap.size, 5, none⟩ = some (.int .i64 x_from_) := by rw [← hw_x_0]; exact box_new _ _ _ 5 _ rfl
  have kx_0_6 : w_x_0.cell? ⟨w.heap.size, 6, none⟩ = some (.int .i64 x_to_) := by rw [← hw_x_0]; exact box_new _ _ _ 6 _ rfl
  have kx_0_7 : w_x_0.cell? ⟨w.heap.size, 7, none⟩ = some (.int .i64 x_leave) := by rw [← hw_x_0]; exact box_new _ _ _ 7 _ rfl
  have kx_0_8 : w_x_0.cell? ⟨w.heap.size, 8, none⟩ = some (.int .i64 x_arrive) := by rw [← hw_x_0]; exact box_new _ _ _ 8 _ rfl
  replace H := bind2_hid H
  obtain ⟨t_4a, t_4b, qt_4, H⟩ := H
  go_wp2_with fail
  clear Fq0 Fq1i0 Fq1i1 Fq1
  go_at_call 46
  refine (Go.Proofs.Ytlljmgphgmklcaa.GiRouteOn.C fuel (hq0) ((Go.Proofs.Ytlljmgphgmklcaa.PCover.Cover.mk x_id x_day x_zone x_grams x_paid x_from_ x_to_ x_leave x_arrive)) Ahq0 chq0 _   (Lib.hid (Cells.below Mhq0.out HBw_x_0.out)) Nhq0 qt_4).mono ?_
  rintro e_t_4 wt_4 ⟨At_4a, ct_4a, rfl, ot_4a, bt_4⟩
  have Dt_4a_x_0 := Lib.hid (apart_callbox ot_4a kx_0_0)
  have Ot_4a := Lib.hid (own_lower ot_4a HBw_x_0.out.size)
  clear ot_4a
  have HBwt_4 := Lib.hid (Below.step HBw_x_0.out bt_4)
  replace Fq0__698 := cell_below bt_4 Fq0__698
  replace Fq1i0__699 := cell_below bt_4 Fq1i0__699
  replace Fq1i1__700 := cell_below bt_4 Fq1i1__700
  replace Fq1__701 := cell_below bt_4 Fq1__701
  replace kx_0_0 := cell_below bt_4 kx_0_0
  replace kx_0_1 := cell_below bt_4 kx_0_1
  replace kx_0_2 := cell_below bt_4 kx_0_2
  replace kx_0_3 := cell_below bt_4 kx_0_3
  replace kx_0_4 := cell_below bt_4 kx_0_4
  replace kx_0_5 := cell_below bt_4 kx_0_5
  replace kx_0_6 := cell_below bt_4 kx_0_6
  replace kx_0_7 := cell_below bt_4 kx_0_7
  replace kx_0_8 := cell_below bt_4 kx_0_8
  clear bt_4
  replace H := bind_hid H
  obtain ⟨t_12, qt_12, H⟩ := H
  go_wp2_with fail
  go_at_call 112
  refine (Go.Proofs.Ytlljmgphgmklcaa.GxSlicesContainsFuncIntIntiCoversVia1.C (t_4a) (hq1i0) (hq1i1) At_4a ct_4a Ahq1i0 chq1i0 (gq1i0) (gq1i1) _   (Lib.hid (own_cells Ot_4a.out)) (Lib.hid (own_max Ot_4a.out)) (Lib.hid (Cells.below Mhq1i0.out HBwt_4.out)) Nhq1i0 (Lib.hid Fq1i0__699) (Lib.hid Fq1i1__700) qt_12).mono ?_
  rintro e_t_12 wt_12 ⟨rfl, bt_12⟩
  have HBwt_12 := Lib.hid (Below.step HBwt_4.out bt_12)
  replace Fq0__698 := cell_below bt_12 Fq0__698
  replace Fq1i0__699 := cell_below bt_12 Fq1i0__699
  replace Fq1i1__700 := cell_below bt_12 Fq1i1__700
  replace Fq1__701 := cell_below bt_12 Fq1__701
  replace kx_0_0 := cell_below bt_12 kx_0_0
  replace kx_0_1 := cell_below bt_12 kx_0_1
  replace kx_0_2 := cell_below bt_12 kx_0_2
  replace kx_0_3 := cell_below bt_12 kx_0_3
  replace kx_0_4 := cell_below bt_12 kx_0_4
  replace kx_0_5 := cell_below bt_12 kx_0_5
  replace kx_0_6 := cell_below bt_12 kx_0_6
  replace kx_0_7 := cell_below bt_12 kx_0_7
  replace kx_0_8 := cell_below bt_12 kx_0_8
  replace Ot_4a := Lib.hid (own_below Ot_4a.out bt_12)
  clear bt_12
  obtain rfl := ret_hid H
  go_wp2_with fail
  go_ret
  exact ⟨rfl, HBwt_12.out⟩
end Go.Proofs.Ytlljmgphgmklcaa.GiCoversVia2iCoversVia1

/- loop.example/g01062/impl.keysWhere[loop.example/g01062/impl.Cover,int] as a plain function, and the contract of the program's: where the plain one has an answer, the program has it. Conditions: slices read as lists. -/
namespace Go.Proofs.Ytlljmgphgmklcaa.GiKeysWhereCoverIntiIdOfCoveriCoversVia2
set_option linter.unusedVariables false
set_option linter.unusedSimpArgs false
open Go.RowKit
open Go.Proofs.Ytlljmgphgmklcaa.Rowed Go.Proofs.Ytlljmgphgmklcaa.Turn Go.Proofs.Ytlljmgphgmklcaa.Aid Go.Proofs.Ytlljmgphgmklcaa.GoP Go.Proofs.Ytlljmgphgmklcaa.GoM

def l0 (list : (List Go.Proofs.Ytlljmgphgmklcaa.PCover.Cover)) (hf2_0 : (List Go.Proofs.Ytlljmgphgmklcaa.PMail.Mail)) (hf2_1i0 : (List Go.Proofs.Ytlljmgphgmklcaa.PMail.Mail)) (hf2_1i1 : Int) (fuel : Nat) (k0 : Nat) (s : (List Int)) (nx0 bk0 : (List Int) → Option ((List Int))) : Option ((List Int)) :=
  letK s fun keys_7l0 =>
  Option.bind (idx list (k0 : Int)) fun (yt_7 : Go.Proofs.Ytlljmgphgmklcaa.PCover.Cover) =>
  unCover yt_7 fun (t_7_id : Int) (t_7_day : Int) (t_7_zone : Int) (t_7_grams : Int) (t_7_paid : Int) (t_7_from_ : Int) (t_7_to_ : Int) (t_7_leave : Int) (t_7_arrive : Int) =>
  Option.bind (Go.Proofs.Ytlljmgphgmklcaa.GiCoversVia2iCoversVia1.P fuel (Go.Proofs.Ytlljmgphgmklcaa.PCover.Cover.mk t_7_id t_7_day t_7_zone t_7_grams t_7_paid t_7_from_ t_7_to_ t_7_leave t_7_arrive) hf2_0 hf2_1i0 hf2_1i1) fun (t_13 : Bool) =>
  iteK t_13
  (Option.bind (Go.Proofs.Ytlljmgphgmklcaa.GiIdOfCover.P (Go.Proofs.Ytlljmgphgmklcaa.PCover.Cover.mk t_7_id t_7_day t_7_zone t_7_grams t_7_paid t_7_from_ t_7_to_ t_7_leave t_7_arrive)) fun (t_17 : Int) =>
  guardK (keys_7l0.length ≤ 1099511627776) <|
  letK (keys_7l0 ++ [t_17]) fun (t_19 : (List Int)) =>
  appK nx0 (t_19))
  (appK nx0 (keys_7l0))

def e0  (s : (List Int)) : Option ((List Int)) :=
  letK s fun keys_7l0 =>
  some keys_7l0

def P (fuel : Nat) (list : (List Go.Proofs.Ytlljmgphgmklcaa.PCover.Cover)) (hf2_0 : (List Go.Proofs.Ytlljmgphgmklcaa.PMail.Mail)) (hf2_1i0 : (List Go.Proofs.Ytlljmgphgmklcaa.PMail.Mail)) (hf2_1i1 : Int) : Option ((List Int)) :=
  cntK (l0 list hf2_0 hf2_1i0 hf2_1i1 fuel) (list.length) 0 (([] : List Int)) (e0 )

set_option maxRecDepth 100000 in
set_option maxHeartbeats 2000000 in
theorem C (fuel : Nat) (list : (List Go.Proofs.Ytlljmgphgmklcaa.PCover.Cover)) (hf2_0 : (List Go.Proofs.Ytlljmgphgmklcaa.PMail.Mail)) (hf2_1i0 : (List Go.Proofs.Ytlljmgphgmklcaa.PMail.Mail)) (hf2_1i1 : Int) (A0 : Option Addr) (c0 : Nat) (Ahf2_0 : Option Addr) (chf2_0 : Nat) (Ahf2_1i0 : Option Addr) (chf2_1i0 : Nat) (gf2_0 : Nat) (gf2_1 : Nat) (gf2_1i0 : Nat) (gf2_1i1 : Nat) (w : World) (M0 : Hid (Cells w 9 A0 list.length (Go.Proofs.Ytlljmgphgmklcaa.PCover.flat list))) (N0 : Hid (list.length ≤ 9223372036854775807)) (Mhf2_0 : Hid (Cells w 4 Ahf2_0 hf2_0.length (Go.Proofs.Ytlljmgphgmklcaa.PMail.flat hf2_0))) (Nhf2_0 : Hid (hf2_0.length ≤ 9223372036854775807)) (Mhf2_1i0 : Hid (Cells w 4 Ahf2_1i0 hf2_1i0.length (Go.Proofs.Ytlljmgphgmklcaa.PMail.flat hf2_1i0))) (Nhf2_1i0 : Hid (hf2_1i0.length ≤ 9223372036854775807)) (Ff2_0h : Hid (w.cell? ⟨gf2_0, 0, none⟩ = some (.slice Ahf2_0 hf2_0.length chf2_0))) (Ff2_1h : Hid (w.cell? ⟨gf2_1, 0, none⟩ = some (.func (.func 110) #[] #[.pointer (some ⟨gf2_1i0, 0, none⟩), .pointer (some ⟨gf2_1i1, 0, none⟩)]))) (Ff2_1i0h : Hid (w.cell? ⟨gf2_1i0, 0, none⟩ = some (.slice Ahf2_1i0 hf2_1i0.length chf2_1i0))) (Ff2_1i1h : Hid (w.cell? ⟨gf2_1i1, 0, none⟩ = some (.int .i64 hf2_1i1))) {r : (List Int)} (H : Hid (P fuel list hf2_0 hf2_1i0 hf2_1i1 = some r)) :
    Calls Try.prog 99 #[.slice A0 list.length c0, .func (.func 87) #[] #[], .func (.func 111) #[] #[.pointer (some ⟨gf2_0, 0, none⟩), .pointer (some ⟨gf2_1, 0, none⟩)]] w (fun e w' => ∃ A_r c_r, e = .returned (.slice A_r r.length c_r) ∧ w'.ownsRow w.heap.size 3 1 (.slice A_r r.length c_r) r.length (Go.Proofs.Ytlljmgphgmklcaa.HelpInt.iv r) ∧ Below w.heap.size w w') := by
  have HB := Lib.hid (Below.refl w.heap.size w)
  unfold P at H
  have N0o := N0.out
  have Nhf2_0o := Nhf2_0.out
  have Nhf2_1i0o := Nhf2_1i0.out
  have Ff2_0 := Ff2_0h.out
  have Ff2_1 := Ff2_1h.out
  have Ff2_1i0 := Ff2_1i0h.out
  have Ff2_1i1 := Ff2_1i1h.out
  obtain ⟨i0_3, hi_3, hz0_3, hz1_3, hz2_3⟩ := Aid.info_parts (P := Try.prog) (T := 3) (z := .int .i64 0) (s := 1) (b := 8) (by kernel_rfl)
  go_enter Try.func99, Try.ntmps99
  obtain ⟨w_t_1, hw_t_1⟩ : ∃ x, w.alloc (.cells #[] 3) = x := ⟨_, rfl⟩
  have bw_t_1 : Below w.heap.size w w_t_1 := by rw [← hw_t_1]; exact (Below.refl _ _).alloc (Nat.le_refl _) _
  have Ot_1 : Hid (w_t_1.ownsRow w.heap.size 3 1 (.slice (some ⟨w.heap.size, 0, none⟩) 0 0) 0 []) := Lib.hid (by rw [← hw_t_1]; exact own_empty HB.out.size)
  have HBw_t_1 := Lib.hid (Below.step HB.out bw_t_1)
  have Ff2_0__702 := cell_below bw_t_1 Ff2_0
  have Ff2_1i0__703 := cell_below bw_t_1 Ff2_1i0
  have Ff2_1i1__704 := cell_below bw_t_1 Ff2_1i1
  have Ff2_1__705 := cell_below bw_t_1 Ff2_1
  clear bw_t_1
  go_wp2_with fail
  clear Ff2_0 Ff2_1i0 Ff2_1i1 Ff2_1
  go_loopg [13, 7] (list.length) (fun m_ v13_ v7_ wr => ∃ (k0 : Nat) (keys_7l0 : (List Int)) (Akeys_7l0 : Option Addr) (ckeys_7l0 : Nat), k0 + m_ = list.length ∧ v13_ = .int .i64 (k0 : Int) ∧ v7_ = .slice Akeys_7l0 keys_7l0.length ckeys_7l0 ∧ Hid (cntK (l0 list hf2_0 hf2_1i0 hf2_1i1 fuel) m_ k0 (keys_7l0) (e0 ) = some r) ∧ Hid (Below w.heap.size w wr) ∧ wr.cell? ⟨gf2_0, 0, none⟩ = some (.slice Ahf2_0 hf2_0.length chf2_0) ∧ wr.cell? ⟨gf2_1i0, 0, none⟩ = some (.slice Ahf2_1i0 hf2_1i0.length chf2_1i0) ∧ wr.cell? ⟨gf2_1i1, 0, none⟩ = some (.int .i64 hf2_1i1) ∧ wr.cell? ⟨gf2_1, 0, none⟩ = some (.func (.func 110) #[] #[.pointer (some ⟨gf2_1i0, 0, none⟩), .pointer (some ⟨gf2_1i1, 0, none⟩)]) ∧ Hid (wr.ownsRow w.heap.size 3 1 (.slice Akeys_7l0 keys_7l0.length ckeys_7l0) keys_7l0.length (Go.Proofs.Ytlljmgphgmklcaa.HelpInt.iv keys_7l0)))
  case atStart => exact ⟨0, _, _, _, by omega, rfl, rfl, H, HBw_t_1, Ff2_0__702, Ff2_1i0__703, Ff2_1i1__704, Ff2_1__705, Ot_1⟩
  case round =>
    obtain ⟨k0, keys_7l0, Akeys_7l0, ckeys_7l0, hkm0, rfl, rfl, H, HBwr0, Ff2_0__702, Ff2_1i0__703, Ff2_1i1__704, Ff2_1__705, Okeys_7l0⟩ := hrel
    rename World => wr0
    cases gk with
    | zero =>
      obtain rfl : k0 = list.length := by omega
      have hc0 : decide (((list.length : Nat) : Int) < ((list.length : Nat) : Int)) = false := by simp
      replace H := cnt_zero H
      unfold e0 at H
      replace H := let_hid H
      obtain ⟨_, rfl, H⟩ := H
      obtain rfl := ret_hid H
      go_wp2_with fail
      go_ret
      exact ⟨Akeys_7l0, ckeys_7l0, rfl, Okeys_7l0.out, HBwr0.out⟩
    | succ m0 =>
      have hlt0 : k0 < list.length := by omega
      have hc0 : decide ((k0 : Int) < ((list.length : Nat) : Int)) = true := by simp; omega
      replace H := cnt_succ H
      unfold l0 at H
      replace H := let_hid H
      obtain ⟨_, rfl, H⟩ := H
      replace H := idx_hid H
      obtain ⟨nt_7, yt_7, et_7, lt_7, gt_7, H⟩ := H
      obtain rfl : k0 = nt_7 := by omega
      clear et_7
      obtain ⟨t_7_id, t_7_day, t_7_zone, t_7_grams, t_7_paid, t_7_from_, t_7_to_, t_7_leave, t_7_arrive⟩ := yt_7
      replace H := unCover_hid H
      obtain ⟨ab_t_7, ao_t_7, zt_7, At_7, z_t_7, ct_7_0, ct_7_1, ct_7_2, ct_7_3, ct_7_4, ct_7_5, ct_7_6, ct_7_7, ct_7_8⟩ := Go.Proofs.Ytlljmgphgmklcaa.OCover.at_ M0.out lt_7
      obtain rfl := Option.some.inj (gt_7.out.symm.trans z_t_7)
      subst At_7
      have ltt_7 := cell_lt ct_7_0
      replace ct_7_0 := cell_below HBwr0.out ct_7_0
      replace ct_7_1 := cell_below HBwr0.out ct_7_1
      replace ct_7_2 := cell_below HBwr0.out ct_7_2
      replace ct_7_3 := cell_below HBwr0.out ct_7_3
      replace ct_7_4 := cell_below HBwr0.out ct_7_4
      replace ct_7_5 := cell_below HBwr0.out ct_7_5
      replace ct_7_6 := cell_below HBwr0.out ct_7_6
      replace ct_7_7 := cell_below HBwr0.out ct_7_7
      replace ct_7_8 := cell_below HBwr0.out ct_7_8
      clear z_t_7
      have b0t_7 : (0 : Int) ≤ (k0 : Int) := by omega
      have b1t_7 : (k0 : Int) < ((list.length : Nat) : Int) := by omega
      have b2t_7 : ((k0 : Int)).toNat = k0 := by omega
      obtain ⟨w_e_9, hw_e_9⟩ : ∃ x, wr0.alloc (.cells #[.int .i64 t_7_id, .int .i64 t_7_day, .int .i64 t_7_zone, .int .i64 t_7_grams, .int .i64 t_7_paid, .int .i64 t_7_from_, .int .i64 t_7_to_, .int .i64 t_7_leave, .int .i64 t_7_arrive] 25) = x := ⟨_, rfl⟩
      have bw_e_9 : Below wr0.heap.size wr0 w_e_9 := by rw [← hw_e_9]; exact (Below.refl _ _).alloc (Nat.le_refl _) _
      have De_9_keys_7l0 := Lib.hid (apart_fresh Okeys_7l0.out)
      have HBw_e_9 := Lib.hid (Below.step HBwr0.out bw_e_9)
      have Ff2_0__706 := cell_below bw_e_9 Ff2_0__702
      have Ff2_1i0__707 := cell_below bw_e_9 Ff2_1i0__703
      have Ff2_1i1__708 := cell_below bw_e_9 Ff2_1i1__704
      have Ff2_1__709 := cell_below bw_e_9 Ff2_1__705
      have ct_7_0__710 := cell_below bw_e_9 ct_7_0
      have ct_7_1__711 := cell_below bw_e_9 ct_7_1
      have ct_7_2__712 := cell_below bw_e_9 ct_7_2
      have ct_7_3__713 := cell_below bw_e_9 ct_7_3
      have ct_7_4__714 := cell_below bw_e_9 ct_7_4
      have ct_7_5__715 := cell_below bw_e_9 ct_7_5
      have ct_7_6__716 := cell_below bw_e_9 ct_7_6
      have ct_7_7__717 := cell_below bw_e_9 ct_7_7
      have ct_7_8__718 := cell_below bw_e_9 ct_7_8
      replace Okeys_7l0 := Lib.hid (own_below Okeys_7l0.out bw_e_9)
      clear bw_e_9
      have ke_9_0 : w_e_9.cell? ⟨wr0.heap.size, 0, none⟩ = some (.int .i64 t_7_id) := by rw [← hw_e_9]; exact box_new _ _ _ 0 _ rfl
      have ke_9_1 : w_e_9.cell? ⟨wr0.heap.size, 1, none⟩ = some (.int .i64 t_7_day) := by rw [← hw_e_9]; exact box_new _ _ _ 1 _ rfl
      have ke_9_2 : w_e_9.cell? ⟨wr0.heap.size, 2, none⟩ = some (.int .i64 t_7_zone) := by rw [← hw_e_9]; exact box_new _ _ _ 2 _ rfl
      have ke_9_3 : w_e_9.cell? ⟨wr0.heap.size, 3, none⟩ = some (.int .i64 t_7_grams) := by rw [← hw_e_9]; exact box_new _ _ _ 3 _ rfl
      have ke_9_4 : w_e_9.cell? ⟨wr0.heap.size, 4, none⟩ = some (.int .i64 t_7_paid) := by rw [← hw_e_9]; exact box_new _ _ _ 4 _ rfl
      have ke_9_5 : w_e_9.cell? ⟨wr0.heap.size, 5, none⟩ = some (.int .i64 t_7_from_) := by rw [← hw_e_9]; exact box_new _ _ _ 5 _ rfl
      have ke_9_6 : w_e_9.cell? ⟨wr0.heap.size, 6, none⟩ = some (.int .i64 t_7_to_) := by rw [← hw_e_9]; exact box_new _ _ _ 6 _ rfl
      have ke_9_7 : w_e_9.cell? ⟨wr0.heap.size, 7, none⟩ = some (.int .i64 t_7_leave) := by rw [← hw_e_9]; exact box_new _ _ _ 7 _ rfl
      have ke_9_8 : w_e_9.cell? ⟨wr0.heap.size, 8, none⟩ = some (.int .i64 t_7_arrive) := by rw [← hw_e_9]; exact box_new _ _ _ 8 _ rfl
      replace H := bind_hid H
      obtain ⟨t_13, qt_13, H⟩ := H
      go_wp2_with fail
      clear Ff2_0__702 Ff2_1i0__703 Ff2_1i1__704 Ff2_1__705 ct_7_0 ct_7_1 ct_7_2 ct_7_3 ct_7_4 ct_7_5 ct_7_6 ct_7_7 ct_7_8
      go_at_call 111
      refine (Go.Proofs.Ytlljmgphgmklcaa.GiCoversVia2iCoversVia1.C fuel ((Go.Proofs.Ytlljmgphgmklcaa.PCover.Cover.mk t_7_id t_7_day t_7_zone t_7_grams t_7_paid t_7_from_ t_7_to_ t_7_leave t_7_arrive)) (hf2_0) (hf2_1i0) (hf2_1i1) Ahf2_0 chf2_0 Ahf2_1i0 chf2_1i0 (gf2_0) (gf2_1) (gf2_1i0) (gf2_1i1) _   (Lib.hid (Cells.below Mhf2_0.out HBw_e_9.out)) Nhf2_0 (Lib.hid (Cells.below Mhf2_1i0.out HBw_e_9.out)) Nhf2_1i0 (Lib.hid Ff2_0__706) (Lib.hid Ff2_1__709) (Lib.hid Ff2_1i0__707) (Lib.hid Ff2_1i1__708) qt_13).mono ?_
      rintro e_t_13 wt_13 ⟨rfl, bt_13⟩
      have HBwt_13 := Lib.hid (Below.step HBw_e_9.out bt_13)
      replace Ff2_0__706 := cell_below bt_13 Ff2_0__706
      replace Ff2_1i0__707 := cell_below bt_13 Ff2_1i0__707
      replace Ff2_1i1__708 := cell_below bt_13 Ff2_1i1__708
      replace Ff2_1__709 := cell_below bt_13 Ff2_1__709
      replace ct_7_0__710 := cell_below bt_13 ct_7_0__710
      replace ct_7_1__711 := cell_below bt_13 ct_7_1__711
      replace ct_7_2__712 := cell_below bt_13 ct_7_2__712
      replace ct_7_3__713 := cell_below bt_13 ct_7_3__713
      replace ct_7_4__714 := cell_below bt_13 ct_7_4__714
      replace ct_7_5__715 := cell_below bt_13 ct_7_5__715
      replace ct_7_6__716 := cell_below bt_13 ct_7_6__716
      replace ct_7_7__717 := cell_below bt_13 ct_7_7__717
      replace ct_7_8__718 := cell_below bt_13 ct_7_8__718
      replace ke_9_0 := cell_below bt_13 ke_9_0
      replace ke_9_1 := cell_below bt_13 ke_9_1
      replace ke_9_2 := cell_below bt_13 ke_9_2
      replace ke_9_3 := cell_below bt_13 ke_9_3
      replace ke_9_4 := cell_below bt_13 ke_9_4
      replace ke_9_5 := cell_below bt_13 ke_9_5
      replace ke_9_6 := cell_below bt_13 ke_9_6
      replace ke_9_7 := cell_below bt_13 ke_9_7
      replace ke_9_8 := cell_below bt_13 ke_9_8
      replace Okeys_7l0 := Lib.hid (own_below Okeys_7l0.out bt_13)
      clear bt_13
      cases t_13 with
      | false =>
        replace H := ite_f H
        replace H := app_hid H
        go_wp2_with fail
        go_roundg m0
        case measure => omega
        case rel => exact ⟨k0 + 1, _, _, _, by omega, by go_num, rfl, H, HBwt_13, Ff2_0__706, Ff2_1i0__707, Ff2_1i1__708, Ff2_1__709, Okeys_7l0⟩
      | true =>
        replace H := ite_t H
        replace H := bind_hid H
        obtain ⟨t_17, qt_17, H⟩ := H
        go_wp2_with fail
        go_at_call 87
        refine (Go.Proofs.Ytlljmgphgmklcaa.GiIdOfCover.C ((Go.Proofs.Ytlljmgphgmklcaa.PCover.Cover.mk t_7_id t_7_day t_7_zone t_7_grams t_7_paid t_7_from_ t_7_to_ t_7_leave t_7_arrive))  _    qt_17).mono ?_
        rintro e_t_17 wt_17 ⟨rfl, bt_17⟩
        have HBwt_17 := Lib.hid (Below.step HBwt_13.out bt_17)
        replace Ff2_0__706 := cell_below bt_17 Ff2_0__706
        replace Ff2_1i0__707 := cell_below bt_17 Ff2_1i0__707
        replace Ff2_1i1__708 := cell_below bt_17 Ff2_1i1__708
        replace Ff2_1__709 := cell_below bt_17 Ff2_1__709
        replace ct_7_0__710 := cell_below bt_17 ct_7_0__710
        replace ct_7_1__711 := cell_below bt_17 ct_7_1__711
        replace ct_7_2__712 := cell_below bt_17 ct_7_2__712
        replace ct_7_3__713 := cell_below bt_17 ct_7_3__713
        replace ct_7_4__714 := cell_below bt_17 ct_7_4__714
        replace ct_7_5__715 := cell_below bt_17 ct_7_5__715
        replace ct_7_6__716 := cell_below bt_17 ct_7_6__716
        replace ct_7_7__717 := cell_below bt_17 ct_7_7__717
        replace ct_7_8__718 := cell_below bt_17 ct_7_8__718
        replace ke_9_0 := cell_below bt_17 ke_9_0
        replace ke_9_1 := cell_below bt_17 ke_9_1
        replace ke_9_2 := cell_below bt_17 ke_9_2
        replace ke_9_3 := cell_below bt_17 ke_9_3
        replace ke_9_4 := cell_below bt_17 ke_9_4
        replace ke_9_5 := cell_below bt_17 ke_9_5
        replace ke_9_6 := cell_below bt_17 ke_9_6
        replace ke_9_7 := cell_below bt_17 ke_9_7
        replace ke_9_8 := cell_below bt_17 ke_9_8
        replace Okeys_7l0 := Lib.hid (own_below Okeys_7l0.out bt_17)
        clear bt_17
        obtain ⟨w_t_18, hw_t_18⟩ : ∃ x, wt_17.alloc (.cells #[.int .i64 t_17] 3) = x := ⟨_, rfl⟩
        have bw_t_18 : Below wt_17.heap.size wt_17 w_t_18 := by rw [← hw_t_18]; exact (Below.refl _ _).alloc (Nat.le_refl _) _
        have HBw_t_18 := Lib.hid (Below.step HBwt_17.out bw_t_18)
        have Ff2_0__719 := cell_below bw_t_18 Ff2_0__706
        have Ff2_1i0__720 := cell_below bw_t_18 Ff2_1i0__707
        have Ff2_1i1__721 := cell_below bw_t_18 Ff2_1i1__708
        have Ff2_1__722 := cell_below bw_t_18 Ff2_1__709
        have ct_7_0__723 := cell_below bw_t_18 ct_7_0__710
        have ct_7_1__724 := cell_below bw_t_18 ct_7_1__711
        have ct_7_2__725 := cell_below bw_t_18 ct_7_2__712
        have ct_7_3__726 := cell_below bw_t_18 ct_7_3__713
        have ct_7_4__727 := cell_below bw_t_18 ct_7_4__714
        have ct_7_5__728 := cell_below bw_t_18 ct_7_5__715
        have ct_7_6__729 := cell_below bw_t_18 ct_7_6__716
        have ct_7_7__730 := cell_below bw_t_18 ct_7_7__717
        have ct_7_8__731 := cell_below bw_t_18 ct_7_8__718
        have ke_9_0__732 := cell_below bw_t_18 ke_9_0
        have ke_9_1__733 := cell_below bw_t_18 ke_9_1
        have ke_9_2__734 := cell_below bw_t_18 ke_9_2
        have ke_9_3__735 := cell_below bw_t_18 ke_9_3
        have ke_9_4__736 := cell_below bw_t_18 ke_9_4
        have ke_9_5__737 := cell_below bw_t_18 ke_9_5
        have ke_9_6__738 := cell_below bw_t_18 ke_9_6
        have ke_9_7__739 := cell_below bw_t_18 ke_9_7
        have ke_9_8__740 := cell_below bw_t_18 ke_9_8
        replace Okeys_7l0 := Lib.hid (own_below Okeys_7l0.out bw_t_18)
        clear bw_t_18
        replace H := guard_hid H
        obtain ⟨hlt_19, H⟩ := H
        replace H := let_hid H
        obtain ⟨t_19, ht_19, H⟩ := H
        have hht_19 := Lib.hid ht_19
        clear ht_19
        have hst_19 := HBw_t_18.out.size
        go_wp2_with (at_builtin; refine wpList_append_own_at _ rfl _ _ 48 rfl w.heap.size 3 i0_3 (.int .i64 0) 1 8 Try.underlying48 hi_3 hz0_3 hz1_3 hz2_3 rfl (by decide) _ _ _ rfl Okeys_7l0.out ⟨wt_17.heap.size, 0, none⟩ 1 1 [.int .i64 t_17] rfl rfl (news_new hw_t_18) (one_cells rfl) (by unfold maxLen; omega) (by omega) hst_19 ?_; intro vt_19 wt_19 ot_19 gt_19 zt_19 yt_19; clear zt_19; obtain ⟨qt_19, ct_19, rfl, pt_19⟩ := own_push hht_19.out (Go.Proofs.Ytlljmgphgmklcaa.HelpInt.iv_snoc _ _) rfl ot_19; have Pt_19 := Lib.hid pt_19; have Yt_19 := Lib.hid yt_19; have Gt_19 := Lib.hid gt_19; clear ot_19 gt_19 pt_19 yt_19; refine stop_in ?_)
        refine stop_out ?_
        have HBwt_19 := Lib.hid (HBw_t_18.out.grown Gt_19.out hst_19 (fun q hq => (Okeys_7l0.out.lt q hq).1))
        clear hst_19
        have Dt_19_e_9 : Hid (Apart (some ⟨qt_19, 0, none⟩) _) := Lib.hid (apart_app (Apart.symm De_9_keys_7l0.out) (fun a_ ha_ => by cases ha_; exact cell_lt ke_9_0__732) Yt_19.out)
        replace Ff2_0__719 := cell_below HBwt_19.out Ff2_0h.out
        replace Ff2_1i0__720 := cell_below HBwt_19.out Ff2_1i0h.out
        replace Ff2_1i1__721 := cell_below HBwt_19.out Ff2_1i1h.out
        replace Ff2_1__722 := cell_below HBwt_19.out Ff2_1h.out
        replace ct_7_0__723 := cell_other ct_7_0__723 Gt_19.out (apart_old Okeys_7l0.out ltt_7)
        replace ct_7_1__724 := cell_other ct_7_1__724 Gt_19.out (apart_old Okeys_7l0.out ltt_7)
        replace ct_7_2__725 := cell_other ct_7_2__725 Gt_19.out (apart_old Okeys_7l0.out ltt_7)
        replace ct_7_3__726 := cell_other ct_7_3__726 Gt_19.out (apart_old Okeys_7l0.out ltt_7)
        replace ct_7_4__727 := cell_other ct_7_4__727 Gt_19.out (apart_old Okeys_7l0.out ltt_7)
        replace ct_7_5__728 := cell_other ct_7_5__728 Gt_19.out (apart_old Okeys_7l0.out ltt_7)
        replace ct_7_6__729 := cell_other ct_7_6__729 Gt_19.out (apart_old Okeys_7l0.out ltt_7)
        replace ct_7_7__730 := cell_other ct_7_7__730 Gt_19.out (apart_old Okeys_7l0.out ltt_7)
        replace ct_7_8__731 := cell_other ct_7_8__731 Gt_19.out (apart_old Okeys_7l0.out ltt_7)
        replace ke_9_0__732 := cell_other ke_9_0__732 Gt_19.out (Apart.symm De_9_keys_7l0.out)
        replace ke_9_1__733 := cell_other ke_9_1__733 Gt_19.out (Apart.symm De_9_keys_7l0.out)
        replace ke_9_2__734 := cell_other ke_9_2__734 Gt_19.out (Apart.symm De_9_keys_7l0.out)
        replace ke_9_3__735 := cell_other ke_9_3__735 Gt_19.out (Apart.symm De_9_keys_7l0.out)
        replace ke_9_4__736 := cell_other ke_9_4__736 Gt_19.out (Apart.symm De_9_keys_7l0.out)
        replace ke_9_5__737 := cell_other ke_9_5__737 Gt_19.out (Apart.symm De_9_keys_7l0.out)
        replace ke_9_6__738 := cell_other ke_9_6__738 Gt_19.out (Apart.symm De_9_keys_7l0.out)
        replace ke_9_7__739 := cell_other ke_9_7__739 Gt_19.out (Apart.symm De_9_keys_7l0.out)
        replace ke_9_8__740 := cell_other ke_9_8__740 Gt_19.out (Apart.symm De_9_keys_7l0.out)
        clear Ff2_0__706 Ff2_1i0__707 Ff2_1i1__708 Ff2_1__709 ct_7_0__710 ct_7_1__711 ct_7_2__712 ct_7_3__713 ct_7_4__714 ct_7_5__715 ct_7_6__716 ct_7_7__717 ct_7_8__718 ke_9_0 ke_9_1 ke_9_2 ke_9_3 ke_9_4 ke_9_5 ke_9_6 ke_9_7 ke_9_8
        clear Okeys_7l0 Yt_19 Gt_19
        replace H := app_hid H
        go_wp2_with fail
        go_roundg m0
        case measure => omega
        case rel => exact ⟨k0 + 1, _, _, _, by omega, by go_num, rfl, H, HBwt_19, Ff2_0__719, Ff2_1i0__720, Ff2_1i1__721, Ff2_1__722, Pt_19⟩
end Go.Proofs.Ytlljmgphgmklcaa.GiKeysWhereCoverIntiIdOfCoveriCoversVia2

/- loop.example/g01062/impl.CoversVia as a plain function, and the contract of the program's: where the plain one has an answer, the program has it. Conditions: slices read as lists. -/
namespace Go.Proofs.Ytlljmgphgmklcaa.GiCoversVia
set_option linter.unusedVariables false
set_option linter.unusedSimpArgs false
open Go.RowKit
open Go.Proofs.Ytlljmgphgmklcaa.Rowed Go.Proofs.Ytlljmgphgmklcaa.Turn Go.Proofs.Ytlljmgphgmklcaa.Aid Go.Proofs.Ytlljmgphgmklcaa.GoP Go.Proofs.Ytlljmgphgmklcaa.GoM

def P (fuel : Nat) (mails : (List Go.Proofs.Ytlljmgphgmklcaa.PMail.Mail)) (list : (List Go.Proofs.Ytlljmgphgmklcaa.PCover.Cover)) (office : Int) : Option ((List Int) × Bool) :=
  Option.bind (Go.Proofs.Ytlljmgphgmklcaa.GiIsTimetable.P mails) fun (t_5 : Bool) =>
  letK (!t_5) fun (t_6 : Bool) =>
  joinK (fun (t_11 : Bool) =>
  joinK (fun (t_16 : Bool) =>
  iteK t_16
  (some (([] : List Int), false))
  (Option.bind (Go.Proofs.Ytlljmgphgmklcaa.GiKeysWhereCoverIntiIdOfCoveriCoversVia2.P fuel list mails mails office) fun (t_27 : (List Int)) =>
  some (t_27, true))) fun jt_16 => iteK t_11 (appK jt_16 true) (Option.bind (Go.Proofs.Ytlljmgphgmklcaa.GiIsPostOffice.P office) fun (t_14 : Bool) =>
  letK (!t_14) fun (t_15 : Bool) =>
  appK jt_16 t_15)) fun jt_11 => iteK t_6 (appK jt_11 true) (Option.bind (Go.Proofs.Ytlljmgphgmklcaa.GiAreCovers.P list) fun (t_9 : Bool) =>
  letK (!t_9) fun (t_10 : Bool) =>
  appK jt_11 t_10)

set_option maxRecDepth 100000 in
set_option maxHeartbeats 2000000 in
theorem C (fuel : Nat) (mails : (List Go.Proofs.Ytlljmgphgmklcaa.PMail.Mail)) (list : (List Go.Proofs.Ytlljmgphgmklcaa.PCover.Cover)) (office : Int) (A0 : Option Addr) (c0 : Nat) (A1 : Option Addr) (c1 : Nat)  (w : World) (M0 : Hid (Cells w 4 A0 mails.length (Go.Proofs.Ytlljmgphgmklcaa.PMail.flat mails))) (N0 : Hid (mails.length ≤ 9223372036854775807)) (M1 : Hid (Cells w 9 A1 list.length (Go.Proofs.Ytlljmgphgmklcaa.PCover.flat list))) (N1 : Hid (list.length ≤ 9223372036854775807))  {r0 : (List Int)} {r1 : Bool} (H : Hid (P fuel mails list office = some (r0, r1))) :
    Calls Try.prog 50 #[.slice A0 mails.length c0, .slice A1 list.length c1, .int .i64 office] w (fun e w' => ∃ A_r0 c_r0, e = .returned (.tuple #[.slice A_r0 r0.length c_r0, .bool r1]) ∧ w'.ownsRow w.heap.size 3 1 (.slice A_r0 r0.length c_r0) r0.length (Go.Proofs.Ytlljmgphgmklcaa.HelpInt.iv r0) ∧ Below w.heap.size w w') := by
  have HB := Lib.hid (Below.refl w.heap.size w)
  unfold P at H
  have N0o := N0.out
  have N1o := N1.out
  go_enter Try.func50, Try.ntmps50
  obtain ⟨w_mails_0, hw_mails_0⟩ : ∃ x, w.alloc (.cells #[.slice A0 mails.length c0] 43) = x := ⟨_, rfl⟩
  have bw_mails_0 : Below w.heap.size w w_mails_0 := by rw [← hw_mails_0]; exact (Below.refl _ _).alloc (Nat.le_refl _) _
  have HBw_mails_0 := Lib.hid (Below.step HB.out bw_mails_0)
  clear bw_mails_0
  have kmails_0_0 : w_mails_0.cell? ⟨w.heap.size, 0, none⟩ = some (.slice A0 mails.length c0) := by rw [← hw_mails_0]; exact box_new _ _ _ 0 _ rfl
  obtain ⟨w_office_1, hw_office_1⟩ : ∃ x, w_mails_0.alloc (.cells #[.int .i64 office] 3) = x := ⟨_, rfl⟩
  have bw_office_1 : Below w_mails_0.heap.size w_mails_0 w_office_1 := by rw [← hw_office_1]; exact (Below.refl _ _).alloc (Nat.le_refl _) _
  have HBw_office_1 := Lib.hid (Below.step HBw_mails_0.out bw_office_1)
  have kmails_0_0__741 := cell_below bw_office_1 kmails_0_0
  clear bw_office_1
  have koffice_1_0 : w_office_1.cell? ⟨w_mails_0.heap.size, 0, none⟩ = some (.int .i64 office) := by rw [← hw_office_1]; exact box_new _ _ _ 0 _ rfl
  replace H := bind_hid H
  obtain ⟨t_5, qt_5, H⟩ := H
  go_wp2_with fail
  clear kmails_0_0
  go_at_call 104
  refine (Go.Proofs.Ytlljmgphgmklcaa.GiIsTimetable.C (mails) A0 c0 _   (Lib.hid (Cells.below M0.out HBw_office_1.out)) N0 qt_5).mono ?_
  rintro e_t_5 wt_5 ⟨rfl, bt_5⟩
  have HBwt_5 := Lib.hid (Below.step HBw_office_1.out bt_5)
  replace kmails_0_0__741 := cell_below bt_5 kmails_0_0__741
  replace koffice_1_0 := cell_below bt_5 koffice_1_0
  clear bt_5
  cases t_5 with
  | false =>
    replace H := let_hid H
    obtain ⟨t_6, ht_6, H⟩ := H
    obtain rfl : t_6 = true := ht_6.symm
    replace H := join_hid H
    replace H := ite_t H
    replace H := app_hid H
    replace H := join_hid H
    replace H := ite_t H
    replace H := app_hid H
    replace H := ite_t H
    obtain ⟨w_t_17, hw_t_17⟩ : ∃ x, wt_5.alloc (.cells #[] 3) = x := ⟨_, rfl⟩
    have bw_t_17 : Below wt_5.heap.size wt_5 w_t_17 := by rw [← hw_t_17]; exact (Below.refl _ _).alloc (Nat.le_refl _) _
    have Ot_17 : Hid (w_t_17.ownsRow w.heap.size 3 1 (.slice (some ⟨wt_5.heap.size, 0, none⟩) 0 0) 0 []) := Lib.hid (by rw [← hw_t_17]; exact own_empty HBwt_5.out.size)
    have Dt_17_mails_0 := Lib.hid (apart_box kmails_0_0__741)
    have Dt_17_office_1 := Lib.hid (apart_box koffice_1_0)
    have HBw_t_17 := Lib.hid (Below.step HBwt_5.out bw_t_17)
    have kmails_0_0__742 := cell_below bw_t_17 kmails_0_0__741
    have koffice_1_0__743 := cell_below bw_t_17 koffice_1_0
    clear bw_t_17
    cases ret_hid H
    go_wp2_with fail
    go_ret2
    exact ⟨(some ⟨wt_5.heap.size, 0, none⟩), 0, rfl, Ot_17.out, HBw_t_17.out⟩
  | true =>
    replace H := let_hid H
    obtain ⟨t_6, ht_6, H⟩ := H
    obtain rfl : t_6 = false := ht_6.symm
    replace H := join_hid H
    replace H := ite_f H
    replace H := bind_hid H
    obtain ⟨t_9, qt_9, H⟩ := H
    go_wp2_with fail
    go_at_call 22
    refine (Go.Proofs.Ytlljmgphgmklcaa.GiAreCovers.C (list) A1 c1 _   (Lib.hid (Cells.below M1.out HBwt_5.out)) N1 qt_9).mono ?_
    rintro e_t_9 wt_9 ⟨rfl, bt_9⟩
    have HBwt_9 := Lib.hid (Below.step HBwt_5.out bt_9)
    replace kmails_0_0__741 := cell_below bt_9 kmails_0_0__741
    replace koffice_1_0 := cell_below bt_9 koffice_1_0
    clear bt_9
    cases t_9 with
    | false =>
      replace H := let_hid H
      obtain ⟨t_10, ht_10, H⟩ := H
      obtain rfl : t_10 = true := ht_10.symm
      replace H := app_hid H
      replace H := join_hid H
      replace H := ite_t H
      replace H := app_hid H
      replace H := ite_t H
      obtain ⟨w_t_17, hw_t_17⟩ : ∃ x, wt_9.alloc (.cells #[] 3) = x := ⟨_, rfl⟩
      have bw_t_17 : Below wt_9.heap.size wt_9 w_t_17 := by rw [← hw_t_17]; exact (Below.refl _ _).alloc (Nat.le_refl _) _
      have Ot_17 : Hid (w_t_17.ownsRow w.heap.size 3 1 (.slice (some ⟨wt_9.heap.size, 0, none⟩) 0 0) 0 []) := Lib.hid (by rw [← hw_t_17]; exact own_empty HBwt_9.out.size)
      have Dt_17_mails_0 := Lib.hid (apart_box kmails_0_0__741)
      have Dt_17_office_1 := Lib.hid (apart_box koffice_1_0)
      have HBw_t_17 := Lib.hid (Below.step HBwt_9.out bw_t_17)
      have kmails_0_0__744 := cell_below bw_t_17 kmails_0_0__741
      have koffice_1_0__745 := cell_below bw_t_17 koffice_1_0
      clear bw_t_17
      cases ret_hid H
      go_wp2_with fail
      go_ret2
      exact ⟨(some ⟨wt_9.heap.size, 0, none⟩), 0, rfl, Ot_17.out, HBw_t_17.out⟩
    | true =>
      replace H := let_hid H
      obtain ⟨t_10, ht_10, H⟩ := H
      obtain rfl : t_10 = false := ht_10.symm
      replace H := app_hid H
      replace H := join_hid H
      replace H := ite_f H
      replace H := bind_hid H
      obtain ⟨t_14, qt_14, H⟩ := H
      go_wp2_with fail
      go_at_call 83
      refine (Go.Proofs.Ytlljmgphgmklcaa.GiIsPostOffice.C (office)  _    qt_14).mono ?_
      rintro e_t_14 wt_14 ⟨rfl, bt_14⟩
      have HBwt_14 := Lib.hid (Below.step HBwt_9.out bt_14)
      replace kmails_0_0__741 := cell_below bt_14 kmails_0_0__741
      replace koffice_1_0 := cell_below bt_14 koffice_1_0
      clear bt_14
      cases t_14 with
      | false =>
        replace H := let_hid H
        obtain ⟨t_15, ht_15, H⟩ := H
        obtain rfl : t_15 = true := ht_15.symm
        replace H := app_hid H
        replace H := ite_t H
        obtain ⟨w_t_17, hw_t_17⟩ : ∃ x, wt_14.alloc (.cells #[] 3) = x := ⟨_, rfl⟩
        have bw_t_17 : Below wt_14.heap.size wt_14 w_t_17 := by rw [← hw_t_17]; exact (Below.refl _ _).alloc (Nat.le_refl _) _
        have Ot_17 : Hid (w_t_17.ownsRow w.heap.size 3 1 (.slice (some ⟨wt_14.heap.size, 0, none⟩) 0 0) 0 []) := Lib.hid (by rw [← hw_t_17]; exact own_empty HBwt_14.out.size)
        have Dt_17_mails_0 := Lib.hid (apart_box kmails_0_0__741)
        have Dt_17_office_1 := Lib.hid (apart_box koffice_1_0)
        have HBw_t_17 := Lib.hid (Below.step HBwt_14.out bw_t_17)
        have kmails_0_0__746 := cell_below bw_t_17 kmails_0_0__741
        have koffice_1_0__747 := cell_below bw_t_17 koffice_1_0
        clear bw_t_17
        cases ret_hid H
        go_wp2_with fail
        go_ret2
        exact ⟨(some ⟨wt_14.heap.size, 0, none⟩), 0, rfl, Ot_17.out, HBw_t_17.out⟩
      | true =>
        replace H := let_hid H
        obtain ⟨t_15, ht_15, H⟩ := H
        obtain rfl : t_15 = false := ht_15.symm
        replace H := app_hid H
        replace H := ite_f H
        obtain ⟨w_arrivesThere_21, hw_arrivesThere_21⟩ : ∃ x, wt_14.alloc (.cells #[.func (.func 110) #[] #[.pointer (some ⟨w.heap.size, 0, none⟩), .pointer (some ⟨w_mails_0.heap.size, 0, none⟩)]] 70) = x := ⟨_, rfl⟩
        have bw_arrivesThere_21 : Below wt_14.heap.size wt_14 w_arrivesThere_21 := by rw [← hw_arrivesThere_21]; exact (Below.refl _ _).alloc (Nat.le_refl _) _
        have HBw_arrivesThere_21 := Lib.hid (Below.step HBwt_14.out bw_arrivesThere_21)
        have kmails_0_0__748 := cell_below bw_arrivesThere_21 kmails_0_0__741
        have koffice_1_0__749 := cell_below bw_arrivesThere_21 koffice_1_0
        clear bw_arrivesThere_21
        have karrivesThere_21_0 : w_arrivesThere_21.cell? ⟨wt_14.heap.size, 0, none⟩ = some (.func (.func 110) #[] #[.pointer (some ⟨w.heap.size, 0, none⟩), .pointer (some ⟨w_mails_0.heap.size, 0, none⟩)]) := by rw [← hw_arrivesThere_21]; exact box_new _ _ _ 0 _ rfl
        replace H := bind_hid H
        obtain ⟨t_27, qt_27, H⟩ := H
        go_wp2_with fail
        clear kmails_0_0__741 koffice_1_0
        go_at_call 99
        refine (Go.Proofs.Ytlljmgphgmklcaa.GiKeysWhereCoverIntiIdOfCoveriCoversVia2.C fuel (list) (mails) (mails) (office) A1 c1 A0 c0 A0 c0 (w.heap.size) (wt_14.heap.size) (w.heap.size) (w_mails_0.heap.size) _   (Lib.hid (Cells.below M1.out HBw_arrivesThere_21.out)) N1 (Lib.hid (Cells.below M0.out HBw_arrivesThere_21.out)) N0 (Lib.hid (Cells.below M0.out HBw_arrivesThere_21.out)) N0 (Lib.hid kmails_0_0__748) (Lib.hid karrivesThere_21_0) (Lib.hid kmails_0_0__748) (Lib.hid koffice_1_0__749) qt_27).mono ?_
        rintro e_t_27 wt_27 ⟨At_27, ct_27, rfl, ot_27, bt_27⟩
        have Dt_27_mails_0 := Lib.hid (apart_callbox ot_27 kmails_0_0__748)
        have Dt_27_office_1 := Lib.hid (apart_callbox ot_27 koffice_1_0__749)
        have Dt_27_arrivesThere_21 := Lib.hid (apart_callbox ot_27 karrivesThere_21_0)
        have Ot_27 := Lib.hid (own_lower ot_27 HBw_arrivesThere_21.out.size)
        clear ot_27
        have HBwt_27 := Lib.hid (Below.step HBw_arrivesThere_21.out bt_27)
        replace kmails_0_0__748 := cell_below bt_27 kmails_0_0__748
        replace koffice_1_0__749 := cell_below bt_27 koffice_1_0__749
        replace karrivesThere_21_0 := cell_below bt_27 karrivesThere_21_0
        clear bt_27
        cases ret_hid H
        go_wp2_with fail
        go_ret2
        exact ⟨At_27, ct_27, rfl, Ot_27.out, HBwt_27.out⟩
end Go.Proofs.Ytlljmgphgmklcaa.GiCoversVia

