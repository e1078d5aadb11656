/- Texts on which the proofs of several laws stand, one behind the other (6 of 11). No condition of their own. -/
import Derived.Test.YthkaeighfjadlaaChecked
import Derived.Test.YthkaeighfjadlaaU10P1
import Derived.Test.YthkaeighfjadlaaU10P4
import Derived.Test.YthkaeighfjadlaaU10P2
import Derived.Test.YthkaeighfjadlaaU10P5
import Derived.WalkKit
import Derived.WalkSpells
import Derived.WalkLawsBesides
import Derived.BigQuiet
import Derived.OwnWalk
import Derived.Deep.LoopGhost
import Derived.Deep.QuietTactic
import Derived.IntWalk
import Derived.Lib.QuietBelow
import Derived.StillTailTactics
/- loop.example/g01062/impl.firstRoute as a plain function, and the contract of the program's: where the plain one has an answer, the program has it. Conditions: slices read as lists. -/
namespace Go.Proofs.Ythkaeighfjadlaa.GiFirstRoute
set_option linter.unusedVariables false
set_option linter.unusedSimpArgs false
open Go.RowKit
open Go.Proofs.Ythkaeighfjadlaa.Rowed Go.Proofs.Ythkaeighfjadlaa.Turn Go.Proofs.Ythkaeighfjadlaa.Aid Go.Proofs.Ythkaeighfjadlaa.GoP Go.Proofs.Ythkaeighfjadlaa.GoM

def l1 (list : (List Go.Proofs.Ythkaeighfjadlaa.PMail.Mail)) (vlatest_0 : (List Int)) (nx0 : (Int × Int × (List Int)) → Option ((List Int))) (k1 : Nat) (s : Int × Int × (List Int)) (nx1 bk1 : Int × Int × (List Int) → Option ((List Int))) : Option ((List Int)) :=
  unp3 s fun office_1l1 minute_2l1 route_9l1 =>
  Option.bind (idx list (k1 : Int)) fun (yt_9 : Go.Proofs.Ythkaeighfjadlaa.PMail.Mail) =>
  unMail yt_9 fun (t_9_leave : Int) (t_9_from_ : Int) (t_9_to_ : Int) (t_9_arrive : Int) =>
  Option.bind (Go.Proofs.Ythkaeighfjadlaa.GiCanTake.P (Go.Proofs.Ythkaeighfjadlaa.PMail.Mail.mk t_9_leave t_9_from_ t_9_to_ t_9_arrive) office_1l1 minute_2l1) fun (t_17 : Bool) =>
  joinK (fun (t_26 : Bool) =>
  iteK t_26
  (guardK (route_9l1.length ≤ 1099511627776) <|
  letK (route_9l1 ++ [(k1 : Int)]) fun (t_30 : (List Int)) =>
  appK nx0 (t_9_to_, t_9_arrive, t_30))
  (appK nx1 (office_1l1, minute_2l1, route_9l1))) fun jt_26 => iteK t_17 (Option.bind (idx vlatest_0 t_9_to_) fun (yt_23 : Int) =>
  letK (decide (t_9_arrive ≤ yt_23)) fun (t_25 : Bool) =>
  appK jt_26 t_25) (appK jt_26 false)

def e1  (s : Int × Int × (List Int)) : Option ((List Int)) :=
  unp3 s fun office_1l1 minute_2l1 route_9l1 =>
  some route_9l1

def l0 (list : (List Go.Proofs.Ythkaeighfjadlaa.PMail.Mail)) (vlatest_0 : (List Int)) (s : Int × Int × (List Int)) (nx0 bk0 : Int × Int × (List Int) → Option ((List Int))) : Option ((List Int)) :=
  unp3 s fun office_1l0 minute_2l0 route_9l0 =>
  cntK (l1 list vlatest_0 nx0) (list.length) 0 (office_1l0, minute_2l0, route_9l0) (e1 )

def e0  (s : Int × Int × (List Int)) : Option ((List Int)) :=
  unp3 s fun office_1l0 minute_2l0 route_9l0 =>
  some []

def P (fuel : Nat) (list : (List Go.Proofs.Ythkaeighfjadlaa.PMail.Mail)) (office : Int) (minute : Int) (latest : Go.Proofs.Ythkaeighfjadlaa.PIntA10.IntA10) : Option ((List Int)) :=
  unIntA10 latest fun (latest_x0 : Int) (latest_x1 : Int) (latest_x2 : Int) (latest_x3 : Int) (latest_x4 : Int) (latest_x5 : Int) (latest_x6 : Int) (latest_x7 : Int) (latest_x8 : Int) (latest_x9 : Int) =>
  letK ([latest_x0, latest_x1, latest_x2, latest_x3, latest_x4, latest_x5, latest_x6, latest_x7, latest_x8, latest_x9]) fun (vlatest_0 : (List Int)) =>
  loopK (l0 list vlatest_0) fuel (office, minute, ([] : List Int)) (e0 )

set_option maxRecDepth 100000 in
set_option maxHeartbeats 2000000 in
theorem C (fuel : Nat) (list : (List Go.Proofs.Ythkaeighfjadlaa.PMail.Mail)) (office : Int) (minute : Int) (latest : Go.Proofs.Ythkaeighfjadlaa.PIntA10.IntA10) (A0 : Option Addr) (c0 : Nat)  (w : World) (M0 : Hid (Cells w 4 A0 list.length (Go.Proofs.Ythkaeighfjadlaa.PMail.flat list))) (N0 : Hid (list.length ≤ 9223372036854775807))  {r : (List Int)} (H : Hid (P fuel list office minute latest = some r)) :
    Calls Try.prog 60 #[.slice A0 list.length c0, .int .i64 office, .int .i64 minute, latest.val] w (fun e w' => ∃ A_r c_r, e = .returned (.slice A_r r.length c_r) ∧ w'.ownsRow w.heap.size 3 1 (.slice A_r r.length c_r) r.length (Go.Proofs.Ythkaeighfjadlaa.HelpInt.iv r) ∧ Below w.heap.size w w') := by
  have HB := Lib.hid (Below.refl w.heap.size w)
  unfold P at H
  obtain ⟨latest_x0, latest_x1, latest_x2, latest_x3, latest_x4, latest_x5, latest_x6, latest_x7, latest_x8, latest_x9⟩ := latest
  replace H := unIntA10_hid H
  unfold Go.Proofs.Ythkaeighfjadlaa.PIntA10.IntA10.val
  have N0o := N0.out
  obtain ⟨i0_3, hi_3, hz0_3, hz1_3, hz2_3⟩ := Aid.info_parts (P := Try.prog) (T := 3) (z := .int .i64 0) (s := 1) (b := 8) (by kernel_rfl)
  go_enter Try.func60, Try.ntmps60
  replace H := let_hid H
  obtain ⟨vlatest_0, hvlatest_0, H⟩ := H
  obtain ⟨w_latest_0, hw_latest_0⟩ : ∃ x, w.alloc (.cells #[.int .i64 latest_x0, .int .i64 latest_x1, .int .i64 latest_x2, .int .i64 latest_x3, .int .i64 latest_x4, .int .i64 latest_x5, .int .i64 latest_x6, .int .i64 latest_x7, .int .i64 latest_x8, .int .i64 latest_x9] 90) = x := ⟨_, rfl⟩
  have bw_latest_0 : Below w.heap.size w w_latest_0 := by rw [← hw_latest_0]; exact (Below.refl _ _).alloc (Nat.le_refl _) _
  have hs_latest_0 := HB.out.size
  have nlatest_0 : vlatest_0.length = 10 := by rw [← hvlatest_0]; rfl
  have Olatest_0 : Hid (w_latest_0.ownsRow w.heap.size 90 1 (.slice (some ⟨w.heap.size, 0, none⟩) 10 10) 10 (Go.Proofs.Ythkaeighfjadlaa.HelpInt.iv vlatest_0)) := by
    rw [← hw_latest_0, ← hvlatest_0]
    have e_ : ([.int .i64 latest_x0, .int .i64 latest_x1, .int .i64 latest_x2, .int .i64 latest_x3, .int .i64 latest_x4, .int .i64 latest_x5, .int .i64 latest_x6, .int .i64 latest_x7, .int .i64 latest_x8, .int .i64 latest_x9] : List Value) = Go.Proofs.Ythkaeighfjadlaa.HelpInt.iv [latest_x0, latest_x1, latest_x2, latest_x3, latest_x4, latest_x5, latest_x6, latest_x7, latest_x8, latest_x9] := rfl
    exact Lib.hid (own_laid (n := 10) hs_latest_0 e_ rfl (by unfold maxLen; omega))
  clear hs_latest_0
  have hhlatest_0 := Lib.hid hvlatest_0
  clear hvlatest_0
  replace nlatest_0 := Lib.hid nlatest_0
  have HBw_latest_0 := Lib.hid (Below.step HB.out bw_latest_0)
  clear bw_latest_0
  go_wp2_with fail
  refine Go.Proofs.Ythkaeighfjadlaa.GoA.wp_scope_goto (l := 0) rfl ?_
  intro Kg_ hKg_
  obtain ⟨w_t_2, hw_t_2⟩ : ∃ x, w_latest_0.alloc (.cells #[] 3) = x := ⟨_, rfl⟩
  have bw_t_2 : Below w_latest_0.heap.size w_latest_0 w_t_2 := by rw [← hw_t_2]; exact (Below.refl _ _).alloc (Nat.le_refl _) _
  have Ot_2 : Hid (w_t_2.ownsRow w.heap.size 3 1 (.slice (some ⟨w_latest_0.heap.size, 0, none⟩) 0 0) 0 []) := Lib.hid (by rw [← hw_t_2]; exact own_empty HBw_latest_0.out.size)
  have Dt_2_latest_0 := Lib.hid (apart_fresh Olatest_0.out)
  have HBw_t_2 := Lib.hid (Below.step HBw_latest_0.out bw_t_2)
  replace Olatest_0 := Lib.hid (own_below Olatest_0.out bw_t_2)
  clear bw_t_2
  go_wp2_with fail
  try refine hKg_ _ _ ?_
  refine Go.Proofs.Ythkaeighfjadlaa.GoA.jumps_intro [false, true, true, false, false, false, false, false, true, true, true, true, false, true, true, true, true, true, true, true, true, true, true, true, true, true, true, true, true, true, true, true, true, true, true, true, true, true, true, true, true, true, true] fuel (fun m_ u_ wr => (fun m_ v1_ v2_ v9_ wr => ∃ (office_1l0 : Int) (minute_2l0 : Int) (route_9l0 : (List Int)) (Aroute_9l0 : Option Addr) (croute_9l0 : Nat), v1_ = .int .i64 office_1l0 ∧ v2_ = .int .i64 minute_2l0 ∧ v9_ = .slice Aroute_9l0 route_9l0.length croute_9l0 ∧ Hid (loopK (l0 list vlatest_0) m_ (office_1l0, minute_2l0, route_9l0) (e0 ) = some r) ∧ Hid (Below w.heap.size w wr) ∧ Hid (wr.ownsRow w.heap.size 3 1 (.slice Aroute_9l0 route_9l0.length croute_9l0) route_9l0.length (Go.Proofs.Ythkaeighfjadlaa.HelpInt.iv route_9l0)) ∧ Hid (wr.ownsRow w.heap.size 90 1 (.slice (some ⟨w.heap.size, 0, none⟩) 10 10) 10 (Go.Proofs.Ythkaeighfjadlaa.HelpInt.iv vlatest_0)) ∧ Hid (Apart Aroute_9l0 (some ⟨w.heap.size, 0, none⟩))) m_ (u_ 1) (u_ 2) (u_ 9) wr) ?atStart ?round
  case atStart => exact ⟨_, _, _, _, _, rfl, rfl, rfl, H, HBw_t_2, Ot_2, Olatest_0, Lib.hid Dt_2_latest_0.out⟩
  case round =>
    intro gk ug_ wg_ hrel Jg_ hJg_
    obtain ⟨office_1l0, minute_2l0, route_9l0, Aroute_9l0, croute_9l0, eg1_, eg2_, eg9_, H, HBwr0, Oroute_9l0, Olatest_0, Droute_9l0_latest_0⟩ := hrel
    rename World => wr0
    simp only [Go.Proofs.Ythkaeighfjadlaa.GoA.over, Nat.reduceAdd, eg1_, eg2_, eg9_]
    clear eg1_ eg2_ eg9_
    cases gk with
    | zero => exact (loop_zero H).elim
    | succ m0 =>
      replace H := loop_succ H
      unfold l0 at H
      replace H := unp3_hid H
      go_wp2_with fail
      go_loopg [15, 1, 2, 9] (list.length) (fun m_ v15_ v1_ v2_ v9_ wr => ∃ (k1 : Nat) (office_1l1 : Int) (minute_2l1 : Int) (route_9l1 : (List Int)) (Aroute_9l1 : Option Addr) (croute_9l1 : Nat), k1 + m_ = list.length ∧ v15_ = .int .i64 (k1 : Int) ∧ v1_ = .int .i64 office_1l1 ∧ v2_ = .int .i64 minute_2l1 ∧ v9_ = .slice Aroute_9l1 route_9l1.length croute_9l1 ∧ Hid (cntK (l1 list vlatest_0 (fun s' => loopK (l0 list vlatest_0) m0 s' (e0 ))) m_ k1 (office_1l1, minute_2l1, route_9l1) (e1 ) = some r) ∧ Hid (Below w.heap.size w wr) ∧ Hid (wr.ownsRow w.heap.size 3 1 (.slice Aroute_9l1 route_9l1.length croute_9l1) route_9l1.length (Go.Proofs.Ythkaeighfjadlaa.HelpInt.iv route_9l1)) ∧ Hid (wr.ownsRow w.heap.size 90 1 (.slice (some ⟨w.heap.size, 0, none⟩) 10 10) 10 (Go.Proofs.Ythkaeighfjadlaa.HelpInt.iv vlatest_0)) ∧ Hid (Apart Aroute_9l1 (some ⟨w.heap.size, 0, none⟩)))
      case atStart => exact ⟨0, _, _, _, _, _, by omega, rfl, rfl, rfl, rfl, H, HBwr0, Oroute_9l0, Olatest_0, Lib.hid Droute_9l0_latest_0.out⟩
      case round =>
        obtain ⟨k1, office_1l1, minute_2l1, route_9l1, Aroute_9l1, croute_9l1, hkm1, rfl, rfl, rfl, rfl, H, HBwr1, Oroute_9l1, Olatest_0, Droute_9l1_latest_0⟩ := hrel
        rename World => wr1
        cases gk with
        | zero =>
          obtain rfl : k1 = list.length := by omega
          have hc1 : decide (((list.length : Nat) : Int) < ((list.length : Nat) : Int)) = false := by simp
          replace H := cnt_zero H
          unfold e1 at H
          replace H := unp3_hid H
          obtain rfl := ret_hid H
          go_wp2_with fail
          try simp only [Exit.noGoto, Exit.jump]
          go_wp2_with fail
          go_ret
          exact ⟨Aroute_9l1, croute_9l1, rfl, Oroute_9l1.out, HBwr1.out⟩
        | succ m1 =>
          have hlt1 : k1 < list.length := by omega
          have hc1 : decide ((k1 : Int) < ((list.length : Nat) : Int)) = true := by simp; omega
          replace H := cnt_succ H
          unfold l1 at H
          replace H := unp3_hid H
          replace H := idx_hid H
          obtain ⟨nt_9, yt_9, et_9, lt_9, gt_9, H⟩ := H
          obtain rfl : k1 = nt_9 := by omega
          clear et_9
          obtain ⟨t_9_leave, t_9_from_, t_9_to_, t_9_arrive⟩ := yt_9
          replace H := unMail_hid H
          obtain ⟨ab_t_9, ao_t_9, zt_9, At_9, z_t_9, ct_9_0, ct_9_1, ct_9_2, ct_9_3⟩ := Go.Proofs.Ythkaeighfjadlaa.OMail.at_ M0.out lt_9
          obtain rfl := Option.some.inj (gt_9.out.symm.trans z_t_9)
          subst At_9
          have ltt_9 := cell_lt ct_9_0
          replace ct_9_0 := cell_below HBwr1.out ct_9_0
          replace ct_9_1 := cell_below HBwr1.out ct_9_1
          replace ct_9_2 := cell_below HBwr1.out ct_9_2
          replace ct_9_3 := cell_below HBwr1.out ct_9_3
          clear z_t_9
          have b0t_9 : (0 : Int) ≤ (k1 : Int) := by omega
          have b1t_9 : (k1 : Int) < ((list.length : Nat) : Int) := by omega
          have b2t_9 : ((k1 : Int)).toNat = k1 := by omega
          obtain ⟨w_x_11, hw_x_11⟩ : ∃ x, wr1.alloc (.cells #[.int .i64 t_9_leave, .int .i64 t_9_from_, .int .i64 t_9_to_, .int .i64 t_9_arrive] 93) = x := ⟨_, rfl⟩
          have bw_x_11 : Below wr1.heap.size wr1 w_x_11 := by rw [← hw_x_11]; exact (Below.refl _ _).alloc (Nat.le_refl _) _
          have Dx_11_latest_0 := Lib.hid (apart_fresh Olatest_0.out)
          have Dx_11_route_9l1 := Lib.hid (apart_fresh Oroute_9l1.out)
          have HBw_x_11 := Lib.hid (Below.step HBwr1.out bw_x_11)
          have ct_9_0__314 := cell_below bw_x_11 ct_9_0
          have ct_9_1__315 := cell_below bw_x_11 ct_9_1
          have ct_9_2__316 := cell_below bw_x_11 ct_9_2
          have ct_9_3__317 := cell_below bw_x_11 ct_9_3
          replace Olatest_0 := Lib.hid (own_below Olatest_0.out bw_x_11)
          replace Oroute_9l1 := Lib.hid (own_below Oroute_9l1.out bw_x_11)
          clear bw_x_11
          have kx_11_0 : w_x_11.cell? ⟨wr1.heap.size, 0, none⟩ = some (.int .i64 t_9_leave) := by rw [← hw_x_11]; exact box_new _ _ _ 0 _ rfl
          have kx_11_1 : w_x_11.cell? ⟨wr1.heap.size, 1, none⟩ = some (.int .i64 t_9_from_) := by rw [← hw_x_11]; exact box_new _ _ _ 1 _ rfl
          have kx_11_2 : w_x_11.cell? ⟨wr1.heap.size, 2, none⟩ = some (.int .i64 t_9_to_) := by rw [← hw_x_11]; exact box_new _ _ _ 2 _ rfl
          have kx_11_3 : w_x_11.cell? ⟨wr1.heap.size, 3, none⟩ = some (.int .i64 t_9_arrive) := by rw [← hw_x_11]; exact box_new _ _ _ 3 _ rfl
          go_wp2_with fail
          clear ct_9_0 ct_9_1 ct_9_2 ct_9_3
          have Hct_9_0__314 := Lib.hid ct_9_0__314
          replace ct_9_0__314 := cell_regrown ct_9_0__314
          have Hct_9_1__315 := Lib.hid ct_9_1__315
          replace ct_9_1__315 := cell_regrown ct_9_1__315
          have Hct_9_2__316 := Lib.hid ct_9_2__316
          replace ct_9_2__316 := cell_regrown ct_9_2__316
          have Hct_9_3__317 := Lib.hid ct_9_3__317
          replace ct_9_3__317 := cell_regrown ct_9_3__317
          have Hkx_11_0 := Lib.hid kx_11_0
          replace kx_11_0 := cell_regrown kx_11_0
          have Hkx_11_1 := Lib.hid kx_11_1
          replace kx_11_1 := cell_regrown kx_11_1
          have Hkx_11_2 := Lib.hid kx_11_2
          replace kx_11_2 := cell_regrown kx_11_2
          have Hkx_11_3 := Lib.hid kx_11_3
          replace kx_11_3 := cell_regrown kx_11_3
          replace H := bind_hid H
          obtain ⟨t_17, qt_17, H⟩ := H
          have nt_17 : ∀ d os, Calls Try.prog 72 #[.agg #[.int .i64 t_9_leave, .int .i64 t_9_from_, .int .i64 t_9_to_, .int .i64 t_9_arrive], .int .i64 office_1l1, .int .i64 minute_2l1] (Go.Sort.grow (redrawn w_x_11 d) os) fun e w'' => e = .returned (.bool t_17) ∧ ∃ p : Regrown, w'' = Go.Sort.grow (redrawn w_x_11 p.d) p.os := fun d os => Calls.regrown_of (Go.Proofs.Ythkaeighfjadlaa.GiCanTake.C ((Go.Proofs.Ythkaeighfjadlaa.PMail.Mail.mk t_9_leave t_9_from_ t_9_to_ t_9_arrive)) (office_1l1) (minute_2l1)  _    qt_17)
          replace H := join_hid H
          cases t_17 with
          | false =>
            replace H := ite_f H
            replace H := app_hid H
            refine wp_region_quiet_below (by kernel_rfl) (by kernel_rfl) ?_
            repeat (go_big_quiet_step (first | (go_at_call 72; exact nt_17 _ _)))
            refine wpQuiet_nil ?_
            intro Y5 hY5
            replace hY5 := below_class hY5
            clear nt_17
            replace ct_9_0__314 := Hct_9_0__314.out
            clear Hct_9_0__314
            replace ct_9_1__315 := Hct_9_1__315.out
            clear Hct_9_1__315
            replace ct_9_2__316 := Hct_9_2__316.out
            clear Hct_9_2__316
            replace ct_9_3__317 := Hct_9_3__317.out
            clear Hct_9_3__317
            replace kx_11_0 := Hkx_11_0.out
            clear Hkx_11_0
            replace kx_11_1 := Hkx_11_1.out
            clear Hkx_11_1
            replace kx_11_2 := Hkx_11_2.out
            clear Hkx_11_2
            replace kx_11_3 := Hkx_11_3.out
            clear Hkx_11_3
            have HBY5 := Lib.hid (Below.step HBw_x_11.out hY5)
            replace ct_9_0__314 := cell_below hY5 ct_9_0__314
            replace ct_9_1__315 := cell_below hY5 ct_9_1__315
            replace ct_9_2__316 := cell_below hY5 ct_9_2__316
            replace ct_9_3__317 := cell_below hY5 ct_9_3__317
            replace kx_11_0 := cell_below hY5 kx_11_0
            replace kx_11_1 := cell_below hY5 kx_11_1
            replace kx_11_2 := cell_below hY5 kx_11_2
            replace kx_11_3 := cell_below hY5 kx_11_3
            replace Olatest_0 := Lib.hid (own_below Olatest_0.out hY5)
            replace Oroute_9l1 := Lib.hid (own_below Oroute_9l1.out hY5)
            clear hY5
            replace H := ite_f H
            replace H := app_hid H
            go_wp2_with fail
            go_roundg m1
            case measure => omega
            case rel => exact ⟨k1 + 1, _, _, _, _, _, by omega, by go_num, rfl, rfl, rfl, H, HBY5, Oroute_9l1, Olatest_0, Lib.hid Droute_9l1_latest_0.out⟩
          | true =>
            replace H := ite_t H
            replace H := idx_hid H
            obtain ⟨nt_23, yt_23, et_23, lt_23, gt_23, H⟩ := H
            subst et_23
            have hqt_23 := nlatest_0.out
            obtain ⟨ab_t_23, ao_t_23, zt_23, At_23, z_t_23, ct_23_0⟩ := Go.Proofs.Ythkaeighfjadlaa.HelpInt.Ints.at_ (own_cells Olatest_0.out) (k := nt_23) (by omega)
            obtain rfl := Option.some.inj (gt_23.out.symm.trans z_t_23)
            simp only [Option.some.injEq, Addr.mk.injEq] at At_23
            obtain ⟨rfl, rfl, _⟩ := At_23
            clear z_t_23
            simp only [Nat.zero_add] at ct_23_0
            have b0t_23 : (0 : Int) ≤ (nt_23 : Int) := by omega
            have b1t_23 : (nt_23 : Int) < ((10 : Nat) : Int) := by omega
            have b2t_23 : ((nt_23 : Int)).toNat = nt_23 := by omega
            clear hqt_23
            have Hct_23_0 := Lib.hid ct_23_0
            replace ct_23_0 := cell_regrown ct_23_0
            have b3t_23 : nt_23 < 10 := by have h_ := lt_23; have hn_ := nlatest_0.out; omega
            have b4t_23 : (nt_23 : Int) < (10 : Int) := by omega
            replace H := let_hid H
            obtain ⟨t_25, ht_25, H⟩ := H
            replace H := app_hid H
            refine wp_region_quiet_below (by kernel_rfl) (by kernel_rfl) ?_
            repeat (go_big_quiet_step (first | (go_at_call 72; exact nt_17 _ _)))
            refine wpQuiet_nil ?_
            intro Y5 hY5
            replace hY5 := below_class hY5
            clear nt_17
            replace ct_9_0__314 := Hct_9_0__314.out
            clear Hct_9_0__314
            replace ct_9_1__315 := Hct_9_1__315.out
            clear Hct_9_1__315
            replace ct_9_2__316 := Hct_9_2__316.out
            clear Hct_9_2__316
            replace ct_9_3__317 := Hct_9_3__317.out
            clear Hct_9_3__317
            replace kx_11_0 := Hkx_11_0.out
            clear Hkx_11_0
            replace kx_11_1 := Hkx_11_1.out
            clear Hkx_11_1
            replace kx_11_2 := Hkx_11_2.out
            clear Hkx_11_2
            replace kx_11_3 := Hkx_11_3.out
            clear Hkx_11_3
            replace ct_23_0 := Hct_23_0.out
            clear Hct_23_0
            have HBY5 := Lib.hid (Below.step HBw_x_11.out hY5)
            replace ct_9_0__314 := cell_below hY5 ct_9_0__314
            replace ct_9_1__315 := cell_below hY5 ct_9_1__315
            replace ct_9_2__316 := cell_below hY5 ct_9_2__316
            replace ct_9_3__317 := cell_below hY5 ct_9_3__317
            replace kx_11_0 := cell_below hY5 kx_11_0
            replace kx_11_1 := cell_below hY5 kx_11_1
            replace kx_11_2 := cell_below hY5 kx_11_2
            replace kx_11_3 := cell_below hY5 kx_11_3
            replace ct_23_0 := cell_below hY5 ct_23_0
            replace Olatest_0 := Lib.hid (own_below Olatest_0.out hY5)
            replace Oroute_9l1 := Lib.hid (own_below Oroute_9l1.out hY5)
            clear hY5
            cases t_25 with
            | false =>
              replace H := ite_f H
              replace H := app_hid H
              go_wp2_with fail
              go_roundg m1
              case measure => omega
              case rel => exact ⟨k1 + 1, _, _, _, _, _, by omega, by go_num, rfl, rfl, rfl, H, HBY5, Oroute_9l1, Olatest_0, Lib.hid Droute_9l1_latest_0.out⟩
            | true =>
              replace H := ite_t H
              obtain ⟨w_t_29, hw_t_29⟩ : ∃ x, Y5.alloc (.cells #[.int .i64 (k1 : Int)] 3) = x := ⟨_, rfl⟩
              have bw_t_29 : Below Y5.heap.size Y5 w_t_29 := by rw [← hw_t_29]; exact (Below.refl _ _).alloc (Nat.le_refl _) _
              have HBw_t_29 := Lib.hid (Below.step HBY5.out bw_t_29)
              have ct_9_0__318 := cell_below bw_t_29 ct_9_0__314
              have ct_9_1__319 := cell_below bw_t_29 ct_9_1__315
              have ct_9_2__320 := cell_below bw_t_29 ct_9_2__316
              have ct_9_3__321 := cell_below bw_t_29 ct_9_3__317
              have kx_11_0__322 := cell_below bw_t_29 kx_11_0
              have kx_11_1__323 := cell_below bw_t_29 kx_11_1
              have kx_11_2__324 := cell_below bw_t_29 kx_11_2
              have kx_11_3__325 := cell_below bw_t_29 kx_11_3
              have ct_23_0__326 := cell_below bw_t_29 ct_23_0
              replace Olatest_0 := Lib.hid (own_below Olatest_0.out bw_t_29)
              replace Oroute_9l1 := Lib.hid (own_below Oroute_9l1.out bw_t_29)
              clear bw_t_29
              replace H := guard_hid H
              obtain ⟨hlt_30, H⟩ := H
              replace H := let_hid H
              obtain ⟨t_30, ht_30, H⟩ := H
              have hht_30 := Lib.hid ht_30
              clear ht_30
              have hst_30 := HBw_t_29.out.size
              go_wp2_with (at_builtin; refine wpList_append_own_at _ rfl _ _ 27 rfl w.heap.size 3 i0_3 (.int .i64 0) 1 8 Try.underlying27 hi_3 hz0_3 hz1_3 hz2_3 rfl (by decide) _ _ _ rfl Oroute_9l1.out ⟨Y5.heap.size, 0, none⟩ 1 1 [.int .i64 (k1 : Int)] rfl rfl (news_new hw_t_29) (one_cells rfl) (by unfold maxLen; omega) (by omega) hst_30 ?_; intro vt_30 wt_30 ot_30 gt_30 zt_30 yt_30; clear zt_30; obtain ⟨qt_30, ct_30, rfl, pt_30⟩ := own_push hht_30.out (Go.Proofs.Ythkaeighfjadlaa.HelpInt.iv_snoc _ _) rfl ot_30; have Pt_30 := Lib.hid pt_30; have Yt_30 := Lib.hid yt_30; have Gt_30 := Lib.hid gt_30; clear ot_30 gt_30 pt_30 yt_30; refine stop_in ?_)
              refine stop_out ?_
              have HBwt_30 := Lib.hid (HBw_t_29.out.grown Gt_30.out hst_30 (fun q hq => (Oroute_9l1.out.lt q hq).1))
              clear hst_30
              have Dt_30_latest_0 : Hid (Apart (some ⟨qt_30, 0, none⟩) _) := Lib.hid (apart_app Droute_9l1_latest_0.out (fun a_ ha_ => (own_lt Olatest_0.out a_ ha_).2) Yt_30.out)
              have Dt_30_x_11 : Hid (Apart (some ⟨qt_30, 0, none⟩) _) := Lib.hid (apart_app (Apart.symm Dx_11_route_9l1.out) (fun a_ ha_ => by cases ha_; exact cell_lt kx_11_0__322) Yt_30.out)
              replace ct_9_0__318 := cell_other ct_9_0__318 Gt_30.out (apart_old Oroute_9l1.out ltt_9)
              replace ct_9_1__319 := cell_other ct_9_1__319 Gt_30.out (apart_old Oroute_9l1.out ltt_9)
              replace ct_9_2__320 := cell_other ct_9_2__320 Gt_30.out (apart_old Oroute_9l1.out ltt_9)
              replace ct_9_3__321 := cell_other ct_9_3__321 Gt_30.out (apart_old Oroute_9l1.out ltt_9)
              replace kx_11_0__322 := cell_other kx_11_0__322 Gt_30.out (Apart.symm Dx_11_route_9l1.out)
              replace kx_11_1__323 := cell_other kx_11_1__323 Gt_30.out (Apart.symm Dx_11_route_9l1.out)
              replace kx_11_2__324 := cell_other kx_11_2__324 Gt_30.out (Apart.symm Dx_11_route_9l1.out)
              replace kx_11_3__325 := cell_other kx_11_3__325 Gt_30.out (Apart.symm Dx_11_route_9l1.out)
              replace ct_23_0__326 := cell_other ct_23_0__326 Gt_30.out Droute_9l1_latest_0.out
              replace Olatest_0 := Lib.hid (own_other Olatest_0.out Gt_30.out Droute_9l1_latest_0.out)
              clear ct_9_0__314 ct_9_1__315 ct_9_2__316 ct_9_3__317 kx_11_0 kx_11_1 kx_11_2 kx_11_3 ct_23_0
              clear Oroute_9l1 Yt_30 Gt_30
              go_wp2_with fail
              have Hct_9_0__318 := Lib.hid ct_9_0__318
              replace ct_9_0__318 := cell_regrown ct_9_0__318
              have Hct_9_1__319 := Lib.hid ct_9_1__319
              replace ct_9_1__319 := cell_regrown ct_9_1__319
              have Hct_9_2__320 := Lib.hid ct_9_2__320
              replace ct_9_2__320 := cell_regrown ct_9_2__320
              have Hct_9_3__321 := Lib.hid ct_9_3__321
              replace ct_9_3__321 := cell_regrown ct_9_3__321
              have Hkx_11_0__322 := Lib.hid kx_11_0__322
              replace kx_11_0__322 := cell_regrown kx_11_0__322
              have Hkx_11_1__323 := Lib.hid kx_11_1__323
              replace kx_11_1__323 := cell_regrown kx_11_1__323
              have Hkx_11_2__324 := Lib.hid kx_11_2__324
              replace kx_11_2__324 := cell_regrown kx_11_2__324
              have Hkx_11_3__325 := Lib.hid kx_11_3__325
              replace kx_11_3__325 := cell_regrown kx_11_3__325
              have Hct_23_0__326 := Lib.hid ct_23_0__326
              replace ct_23_0__326 := cell_regrown ct_23_0__326
              refine wp_region_quiet_below (by kernel_rfl) (by kernel_rfl) ?_
              repeat (go_big_quiet_step (fail))
              refine wpQuiet_nil ?_
              intro Y7 hY7
              replace hY7 := below_class hY7
              replace ct_9_0__318 := Hct_9_0__318.out
              clear Hct_9_0__318
              replace ct_9_1__319 := Hct_9_1__319.out
              clear Hct_9_1__319
              replace ct_9_2__320 := Hct_9_2__320.out
              clear Hct_9_2__320
              replace ct_9_3__321 := Hct_9_3__321.out
              clear Hct_9_3__321
              replace kx_11_0__322 := Hkx_11_0__322.out
              clear Hkx_11_0__322
              replace kx_11_1__323 := Hkx_11_1__323.out
              clear Hkx_11_1__323
              replace kx_11_2__324 := Hkx_11_2__324.out
              clear Hkx_11_2__324
              replace kx_11_3__325 := Hkx_11_3__325.out
              clear Hkx_11_3__325
              replace ct_23_0__326 := Hct_23_0__326.out
              clear Hct_23_0__326
              have HBY7 := Lib.hid (Below.step HBwt_30.out hY7)
              replace ct_9_0__318 := cell_below hY7 ct_9_0__318
              replace ct_9_1__319 := cell_below hY7 ct_9_1__319
              replace ct_9_2__320 := cell_below hY7 ct_9_2__320
              replace ct_9_3__321 := cell_below hY7 ct_9_3__321
              replace kx_11_0__322 := cell_below hY7 kx_11_0__322
              replace kx_11_1__323 := cell_below hY7 kx_11_1__323
              replace kx_11_2__324 := cell_below hY7 kx_11_2__324
              replace kx_11_3__325 := cell_below hY7 kx_11_3__325
              replace ct_23_0__326 := cell_below hY7 ct_23_0__326
              replace Olatest_0 := Lib.hid (own_below Olatest_0.out hY7)
              replace Pt_30 := Lib.hid (own_below Pt_30.out hY7)
              clear hY7
              replace H := app_hid H
              go_wp2_with fail
              refine wp_goto ?_
              simp only [Exit.then, Exit.inBlock, Exit.jump, true_and]
              refine Go.Proofs.Ythkaeighfjadlaa.GoA.handed_goto hJg_ m0 ?measure rfl ?rel
              case measure => omega
              case rel => exact ⟨_, _, _, _, _, rfl, rfl, rfl, H, HBY7, Pt_30, Olatest_0, Lib.hid Dt_30_latest_0.out⟩
end Go.Proofs.Ythkaeighfjadlaa.GiFirstRoute

/- loop.example/g01062/impl.BestRoute as a plain function, and the contract of the program's: where the plain one has an answer, the program has it. Conditions: slices read as lists. -/
namespace Go.Proofs.Ythkaeighfjadlaa.GiBestRoute
set_option linter.unusedVariables false
set_option linter.unusedSimpArgs false
open Go.RowKit
open Go.Proofs.Ythkaeighfjadlaa.Rowed Go.Proofs.Ythkaeighfjadlaa.Turn Go.Proofs.Ythkaeighfjadlaa.Aid Go.Proofs.Ythkaeighfjadlaa.GoP Go.Proofs.Ythkaeighfjadlaa.GoM

def P (fuel : Nat) (list : (List Go.Proofs.Ythkaeighfjadlaa.PMail.Mail)) (from_1 : Int) (minute : Int) (to_3 : Int) : Option ((List Int) × Bool) :=
  bind2 (Go.Proofs.Ythkaeighfjadlaa.GiEarliestAt.P list from_1 minute to_3) fun (t_6a : Int) (t_6b : Bool) =>
  letK (!t_6b) fun (t_13 : Bool) =>
  iteK t_13
  (some (([] : List Int), false))
  (Option.bind (Go.Proofs.Ythkaeighfjadlaa.GiLatestMinutes.P fuel list to_3 t_6a) fun (t_23 : Go.Proofs.Ythkaeighfjadlaa.PIntA10.IntA10) =>
  unIntA10 t_23 fun (t_23_x0 : Int) (t_23_x1 : Int) (t_23_x2 : Int) (t_23_x3 : Int) (t_23_x4 : Int) (t_23_x5 : Int) (t_23_x6 : Int) (t_23_x7 : Int) (t_23_x8 : Int) (t_23_x9 : Int) =>
  Option.bind (Go.Proofs.Ythkaeighfjadlaa.GiFirstRoute.P fuel list from_1 minute (Go.Proofs.Ythkaeighfjadlaa.PIntA10.IntA10.mk t_23_x0 t_23_x1 t_23_x2 t_23_x3 t_23_x4 t_23_x5 t_23_x6 t_23_x7 t_23_x8 t_23_x9)) fun (t_24 : (List Int)) =>
  some (t_24, true))

set_option maxRecDepth 100000 in
set_option maxHeartbeats 2000000 in
theorem C (fuel : Nat) (list : (List Go.Proofs.Ythkaeighfjadlaa.PMail.Mail)) (from_1 : Int) (minute : Int) (to_3 : Int) (A0 : Option Addr) (c0 : Nat)  (w : World) (M0 : Hid (Cells w 4 A0 list.length (Go.Proofs.Ythkaeighfjadlaa.PMail.flat list))) (N0 : Hid (list.length ≤ 9223372036854775807))  {r0 : (List Int)} {r1 : Bool} (H : Hid (P fuel list from_1 minute to_3 = some (r0, r1))) :
    Calls Try.prog 10 #[.slice A0 list.length c0, .int .i64 from_1, .int .i64 minute, .int .i64 to_3] w (fun e w' => ∃ A_r0 c_r0, e = .returned (.tuple #[.slice A_r0 r0.length c_r0, .bool r1]) ∧ w'.ownsRow w.heap.size 3 1 (.slice A_r0 r0.length c_r0) r0.length (Go.Proofs.Ythkaeighfjadlaa.HelpInt.iv r0) ∧ Below w.heap.size w w') := by
  have HB := Lib.hid (Below.refl w.heap.size w)
  unfold P at H
  have N0o := N0.out
  go_enter Try.func10, Try.ntmps10
  replace H := bind2_hid H
  obtain ⟨t_6a, t_6b, qt_6, H⟩ := H
  go_wp2_with fail
  go_at_call 15
  refine (Go.Proofs.Ythkaeighfjadlaa.GiEarliestAt.C (list) (from_1) (minute) (to_3) A0 c0 _   (Lib.hid (Cells.below M0.out HB.out)) N0 qt_6).mono ?_
  rintro e_t_6 wt_6 ⟨rfl, bt_6⟩
  have HBwt_6 := Lib.hid (Below.step HB.out bt_6)
  clear bt_6
  cases t_6b with
  | false =>
    replace H := let_hid H
    obtain ⟨t_13, ht_13, H⟩ := H
    obtain rfl : t_13 = true := ht_13.symm
    replace H := ite_t H
    obtain ⟨w_t_14, hw_t_14⟩ : ∃ x, wt_6.alloc (.cells #[] 3) = x := ⟨_, rfl⟩
    have bw_t_14 : Below wt_6.heap.size wt_6 w_t_14 := by rw [← hw_t_14]; exact (Below.refl _ _).alloc (Nat.le_refl _) _
    have Ot_14 : Hid (w_t_14.ownsRow w.heap.size 3 1 (.slice (some ⟨wt_6.heap.size, 0, none⟩) 0 0) 0 []) := Lib.hid (by rw [← hw_t_14]; exact own_empty HBwt_6.out.size)
    have HBw_t_14 := Lib.hid (Below.step HBwt_6.out bw_t_14)
    clear bw_t_14
    cases ret_hid H
    go_wp2_with fail
    go_ret2
    exact ⟨(some ⟨wt_6.heap.size, 0, none⟩), 0, rfl, Ot_14.out, HBw_t_14.out⟩
  | true =>
    replace H := let_hid H
    obtain ⟨t_13, ht_13, H⟩ := H
    obtain rfl : t_13 = false := ht_13.symm
    replace H := ite_f H
    replace H := bind_hid H
    obtain ⟨t_23, qt_23, H⟩ := H
    obtain ⟨t_23_x0, t_23_x1, t_23_x2, t_23_x3, t_23_x4, t_23_x5, t_23_x6, t_23_x7, t_23_x8, t_23_x9⟩ := t_23
    replace H := unIntA10_hid H
    go_wp2_with fail
    go_at_call 61
    refine (Go.Proofs.Ythkaeighfjadlaa.GiLatestMinutes.C fuel (list) (to_3) (t_6a) A0 c0 _   (Lib.hid (Cells.below M0.out HBwt_6.out)) N0 qt_23).mono ?_
    rintro e_t_23 wt_23 ⟨rfl, bt_23⟩
    unfold Go.Proofs.Ythkaeighfjadlaa.PIntA10.IntA10.val
    have HBwt_23 := Lib.hid (Below.step HBwt_6.out bt_23)
    clear bt_23
    replace H := bind_hid H
    obtain ⟨t_24, qt_24, H⟩ := H
    go_wp2_with fail
    go_at_call 60
    refine (Go.Proofs.Ythkaeighfjadlaa.GiFirstRoute.C fuel (list) (from_1) (minute) ((Go.Proofs.Ythkaeighfjadlaa.PIntA10.IntA10.mk t_23_x0 t_23_x1 t_23_x2 t_23_x3 t_23_x4 t_23_x5 t_23_x6 t_23_x7 t_23_x8 t_23_x9)) A0 c0 _   (Lib.hid (Cells.below M0.out HBwt_23.out)) N0 qt_24).mono ?_
    rintro e_t_24 wt_24 ⟨At_24, ct_24, rfl, ot_24, bt_24⟩
    have Ot_24 := Lib.hid (own_lower ot_24 HBwt_23.out.size)
    clear ot_24
    have HBwt_24 := Lib.hid (Below.step HBwt_23.out bt_24)
    clear bt_24
    cases ret_hid H
    go_wp2_with fail
    go_ret2
    exact ⟨At_24, ct_24, rfl, Ot_24.out, HBwt_24.out⟩
end Go.Proofs.Ythkaeighfjadlaa.GiBestRoute

/- loop.example/g01062/spec.l9Good as a plain function, and the contract of the program's: where the plain one has an answer, the program has it. Conditions: slices read as lists. -/
namespace Go.Proofs.Ythkaeighfjadlaa.GsL9Good
set_option linter.unusedVariables false
set_option linter.unusedSimpArgs false
open Go.RowKit
open Go.Proofs.Ythkaeighfjadlaa.Rowed Go.Proofs.Ythkaeighfjadlaa.Turn Go.Proofs.Ythkaeighfjadlaa.Aid Go.Proofs.Ythkaeighfjadlaa.GoP Go.Proofs.Ythkaeighfjadlaa.GoM

def l0 (list : (List Go.Proofs.Ythkaeighfjadlaa.PMail.Mail)) (k0 : Nat) (s : Unit) (nx0 bk0 : Unit → Option (Bool)) : Option (Bool) :=
  
  Option.bind (idx list (k0 : Int)) fun (yt_8 : Go.Proofs.Ythkaeighfjadlaa.PMail.Mail) =>
  unMail yt_8 fun (t_8_leave : Int) (t_8_from_ : Int) (t_8_to_ : Int) (t_8_arrive : Int) =>
  Option.bind (Go.Proofs.Ythkaeighfjadlaa.GsL9One.P (Go.Proofs.Ythkaeighfjadlaa.PMail.Mail.mk t_8_leave t_8_from_ t_8_to_ t_8_arrive)) fun (t_10 : Bool) =>
  letK (!t_10) fun (t_11 : Bool) =>
  joinK (fun (t_29 : Bool) =>
  iteK t_29
  (some false)
  (appK nx0 ())) fun jt_29 => iteK t_11 (appK jt_29 true) (letK (decide (0 < (k0 : Int))) fun (t_14 : Bool) =>
  joinK (fun (t_28 : Bool) =>
  appK jt_29 t_28) fun jt_28 => iteK t_14 (letK (IntKind.i64.wrap ((k0 : Int) - 1)) fun (t_18 : Int) =>
  Option.bind (idx list t_18) fun (yt_19 : Go.Proofs.Ythkaeighfjadlaa.PMail.Mail) =>
  unMail yt_19 fun (t_19_leave : Int) (t_19_from_ : Int) (t_19_to_ : Int) (t_19_arrive : Int) =>
  Option.bind (Go.Proofs.Ythkaeighfjadlaa.GsL9Code.P (Go.Proofs.Ythkaeighfjadlaa.PMail.Mail.mk t_19_leave t_19_from_ t_19_to_ t_19_arrive)) fun (t_21 : Int) =>
  Option.bind (idx list (k0 : Int)) fun (yt_24 : Go.Proofs.Ythkaeighfjadlaa.PMail.Mail) =>
  unMail yt_24 fun (t_24_leave : Int) (t_24_from_ : Int) (t_24_to_ : Int) (t_24_arrive : Int) =>
  Option.bind (Go.Proofs.Ythkaeighfjadlaa.GsL9Code.P (Go.Proofs.Ythkaeighfjadlaa.PMail.Mail.mk t_24_leave t_24_from_ t_24_to_ t_24_arrive)) fun (t_26 : Int) =>
  letK (decide (t_26 ≤ t_21)) fun (t_27 : Bool) =>
  appK jt_28 t_27) (appK jt_28 false))

def e0 (list : (List Go.Proofs.Ythkaeighfjadlaa.PMail.Mail)) (s : Unit) : Option (Bool) :=
  
  letK (decide ((list.length : Int) ≤ 20)) fun (t_36 : Bool) =>
  some t_36

def P (list : (List Go.Proofs.Ythkaeighfjadlaa.PMail.Mail)) : Option (Bool) :=
  cntK (l0 list) (list.length) 0 () (e0 list)

set_option maxRecDepth 100000 in
set_option maxHeartbeats 2000000 in
theorem C (list : (List Go.Proofs.Ythkaeighfjadlaa.PMail.Mail)) (A0 : Option Addr) (c0 : Nat)  (w : World) (M0 : Hid (Cells w 4 A0 list.length (Go.Proofs.Ythkaeighfjadlaa.PMail.flat list))) (N0 : Hid (list.length ≤ 9223372036854775807))  {r : Bool} (H : Hid (P list = some r)) :
    Calls Try.prog 65 #[.slice A0 list.length c0] w (Gives (.bool r) w) := by
  have HB := Lib.hid (Below.refl w.heap.size w)
  unfold P at H
  have N0o := N0.out
  go_enter Try.func65, Try.ntmps65
  go_wp2_with fail
  go_loopg [3] (list.length) (fun m_ v3_ wr => ∃ (k0 : Nat) , k0 + m_ = list.length ∧ v3_ = .int .i64 (k0 : Int) ∧ Hid (cntK (l0 list) m_ k0 () (e0 list) = some r) ∧ Hid (Below w.heap.size w wr))
  case atStart => exact ⟨0, by omega, rfl, H, HB⟩
  case round =>
    obtain ⟨k0, hkm0, rfl, H, HBwr0⟩ := hrel
    rename World => wr0
    cases gk with
    | zero =>
      obtain rfl : k0 = list.length := by omega
      have hc0 : decide (((list.length : Nat) : Int) < ((list.length : Nat) : Int)) = false := by simp
      replace H := cnt_zero H
      unfold e0 at H
      replace H := let_hid H
      obtain ⟨t_36, ht_36, H⟩ := H
      obtain rfl := ret_hid H
      go_wp2_with fail
      go_ret
      exact ⟨rfl, HBwr0.out⟩
    | succ m0 =>
      have hlt0 : k0 < list.length := by omega
      have hc0 : decide ((k0 : Int) < ((list.length : Nat) : Int)) = true := by simp; omega
      replace H := cnt_succ H
      unfold l0 at H
      go_wp2_with fail
      replace H := idx_hid H
      obtain ⟨nt_8, yt_8, et_8, lt_8, gt_8, H⟩ := H
      obtain rfl : k0 = nt_8 := by omega
      clear et_8
      obtain ⟨t_8_leave, t_8_from_, t_8_to_, t_8_arrive⟩ := yt_8
      replace H := unMail_hid H
      obtain ⟨ab_t_8, ao_t_8, zt_8, At_8, z_t_8, ct_8_0, ct_8_1, ct_8_2, ct_8_3⟩ := Go.Proofs.Ythkaeighfjadlaa.OMail.at_ M0.out lt_8
      obtain rfl := Option.some.inj (gt_8.out.symm.trans z_t_8)
      subst At_8
      have ltt_8 := cell_lt ct_8_0
      replace ct_8_0 := cell_below HBwr0.out ct_8_0
      replace ct_8_1 := cell_below HBwr0.out ct_8_1
      replace ct_8_2 := cell_below HBwr0.out ct_8_2
      replace ct_8_3 := cell_below HBwr0.out ct_8_3
      clear z_t_8
      have b0t_8 : (0 : Int) ≤ (k0 : Int) := by omega
      have b1t_8 : (k0 : Int) < ((list.length : Nat) : Int) := by omega
      have b2t_8 : ((k0 : Int)).toNat = k0 := by omega
      have Hct_8_0 := Lib.hid ct_8_0
      replace ct_8_0 := cell_regrown ct_8_0
      have Hct_8_1 := Lib.hid ct_8_1
      replace ct_8_1 := cell_regrown ct_8_1
      have Hct_8_2 := Lib.hid ct_8_2
      replace ct_8_2 := cell_regrown ct_8_2
      have Hct_8_3 := Lib.hid ct_8_3
      replace ct_8_3 := cell_regrown ct_8_3
      replace H := bind_hid H
      obtain ⟨t_10, qt_10, H⟩ := H
      have nt_10 : ∀ d os, Calls Try.prog 119 #[.agg #[.int .i64 t_8_leave, .int .i64 t_8_from_, .int .i64 t_8_to_, .int .i64 t_8_arrive]] (Go.Sort.grow (redrawn wr0 d) os) fun e w'' => e = .returned (.bool t_10) ∧ ∃ p : Regrown, w'' = Go.Sort.grow (redrawn wr0 p.d) p.os := fun d os => Calls.regrown_of (Go.Proofs.Ythkaeighfjadlaa.GsL9One.C ((Go.Proofs.Ythkaeighfjadlaa.PMail.Mail.mk t_8_leave t_8_from_ t_8_to_ t_8_arrive))  _    qt_10)
      cases t_10 with
      | false =>
        replace H := let_hid H
        obtain ⟨t_11, ht_11, H⟩ := H
        obtain rfl : t_11 = true := ht_11.symm
        replace H := join_hid H
        replace H := ite_t H
        replace H := app_hid H
        refine wp_region_quiet_below (by kernel_rfl) (by kernel_rfl) ?_
        repeat (go_big_quiet_step (first | (go_at_call 119; exact nt_10 _ _)))
        refine wpQuiet_nil ?_
        intro Y4 hY4
        replace hY4 := below_class hY4
        clear nt_10
        replace ct_8_0 := Hct_8_0.out
        clear Hct_8_0
        replace ct_8_1 := Hct_8_1.out
        clear Hct_8_1
        replace ct_8_2 := Hct_8_2.out
        clear Hct_8_2
        replace ct_8_3 := Hct_8_3.out
        clear Hct_8_3
        have HBY4 := Lib.hid (Below.step HBwr0.out hY4)
        replace ct_8_0 := cell_below hY4 ct_8_0
        replace ct_8_1 := cell_below hY4 ct_8_1
        replace ct_8_2 := cell_below hY4 ct_8_2
        replace ct_8_3 := cell_below hY4 ct_8_3
        clear hY4
        replace H := ite_t H
        obtain rfl := ret_hid H
        go_wp2_with fail
        go_ret
        exact ⟨rfl, HBY4.out⟩
      | true =>
        replace H := let_hid H
        obtain ⟨t_11, ht_11, H⟩ := H
        obtain rfl : t_11 = false := ht_11.symm
        replace H := join_hid H
        replace H := ite_f H
        replace H := let_hid H
        obtain ⟨t_14, ht_14, H⟩ := H
        replace H := join_hid H
        cases t_14 with
        | false =>
          have nht_14 : ¬ (0 < k0) := by have := of_decide_eq_false ht_14; omega
          replace H := ite_f H
          replace H := app_hid H
          replace H := app_hid H
          refine wp_region_quiet_below (by kernel_rfl) (by kernel_rfl) ?_
          repeat (go_big_quiet_step (first | (go_at_call 119; exact nt_10 _ _)))
          refine wpQuiet_nil ?_
          intro Y4 hY4
          replace hY4 := below_class hY4
          clear nt_10
          replace ct_8_0 := Hct_8_0.out
          clear Hct_8_0
          replace ct_8_1 := Hct_8_1.out
          clear Hct_8_1
          replace ct_8_2 := Hct_8_2.out
          clear Hct_8_2
          replace ct_8_3 := Hct_8_3.out
          clear Hct_8_3
          have HBY4 := Lib.hid (Below.step HBwr0.out hY4)
          replace ct_8_0 := cell_below hY4 ct_8_0
          replace ct_8_1 := cell_below hY4 ct_8_1
          replace ct_8_2 := cell_below hY4 ct_8_2
          replace ct_8_3 := cell_below hY4 ct_8_3
          clear hY4
          replace H := ite_f H
          replace H := app_hid H
          go_wp2_with fail
          go_roundg m0
          case measure => omega
          case rel => exact ⟨k0 + 1, by omega, by go_num, H, HBY4⟩
        | true =>
          have nht_14 : 0 < k0 := by have := of_decide_eq_true ht_14; omega
          replace H := ite_t H
          replace H := let_hid H
          obtain ⟨t_18, ht_18, H⟩ := H
          replace H := idx_hid H
          obtain ⟨nt_19, yt_19, et_19, lt_19, gt_19, H⟩ := H
          subst et_19
          obtain ⟨t_19_leave, t_19_from_, t_19_to_, t_19_arrive⟩ := yt_19
          replace H := unMail_hid H
          obtain ⟨ab_t_19, ao_t_19, zt_19, At_19, z_t_19, ct_19_0, ct_19_1, ct_19_2, ct_19_3⟩ := Go.Proofs.Ythkaeighfjadlaa.OMail.at_ M0.out lt_19
          obtain rfl := Option.some.inj (gt_19.out.symm.trans z_t_19)
          simp only [Option.some.injEq, Addr.mk.injEq] at At_19
          obtain ⟨rfl, rfl, _⟩ := At_19
          have ltt_19 := cell_lt ct_19_0
          replace ct_19_0 := cell_below HBwr0.out ct_19_0
          replace ct_19_1 := cell_below HBwr0.out ct_19_1
          replace ct_19_2 := cell_below HBwr0.out ct_19_2
          replace ct_19_3 := cell_below HBwr0.out ct_19_3
          clear z_t_19
          have b0t_19 : (0 : Int) ≤ (nt_19 : Int) := by omega
          have b1t_19 : (nt_19 : Int) < ((list.length : Nat) : Int) := by omega
          have b2t_19 : ((nt_19 : Int)).toNat = nt_19 := by omega
          have Hct_19_0 := Lib.hid ct_19_0
          replace ct_19_0 := cell_regrown ct_19_0
          have Hct_19_1 := Lib.hid ct_19_1
          replace ct_19_1 := cell_regrown ct_19_1
          have Hct_19_2 := Lib.hid ct_19_2
          replace ct_19_2 := cell_regrown ct_19_2
          have Hct_19_3 := Lib.hid ct_19_3
          replace ct_19_3 := cell_regrown ct_19_3
          replace H := bind_hid H
          obtain ⟨t_21, qt_21, H⟩ := H
          have nt_21 : ∀ d os, Calls Try.prog 120 #[.agg #[.int .i64 t_19_leave, .int .i64 t_19_from_, .int .i64 t_19_to_, .int .i64 t_19_arrive]] (Go.Sort.grow (redrawn wr0 d) os) fun e w'' => e = .returned (.int .i64 t_21) ∧ ∃ p : Regrown, w'' = Go.Sort.grow (redrawn wr0 p.d) p.os := fun d os => Calls.regrown_of (Go.Proofs.Ythkaeighfjadlaa.GsL9Code.C ((Go.Proofs.Ythkaeighfjadlaa.PMail.Mail.mk t_19_leave t_19_from_ t_19_to_ t_19_arrive))  _    qt_21)
          replace H := idx_hid H
          obtain ⟨nt_24, yt_24, et_24, lt_24, gt_24, H⟩ := H
          obtain rfl : k0 = nt_24 := by omega
          clear et_24
          obtain rfl := Option.some.inj (gt_8.out.symm.trans gt_24.out)
          clear gt_24 lt_24
          replace H := unMail_hid H
          replace H := bind_hid H
          obtain ⟨t_26, qt_26, H⟩ := H
          have nt_26 : ∀ d os, Calls Try.prog 120 #[.agg #[.int .i64 t_8_leave, .int .i64 t_8_from_, .int .i64 t_8_to_, .int .i64 t_8_arrive]] (Go.Sort.grow (redrawn wr0 d) os) fun e w'' => e = .returned (.int .i64 t_26) ∧ ∃ p : Regrown, w'' = Go.Sort.grow (redrawn wr0 p.d) p.os := fun d os => Calls.regrown_of (Go.Proofs.Ythkaeighfjadlaa.GsL9Code.C ((Go.Proofs.Ythkaeighfjadlaa.PMail.Mail.mk t_8_leave t_8_from_ t_8_to_ t_8_arrive))  _    qt_26)
          replace H := let_hid H
          obtain ⟨t_27, ht_27, H⟩ := H
          replace H := app_hid H
          replace H := app_hid H
          refine wp_region_quiet_below (by kernel_rfl) (by kernel_rfl) ?_
          repeat (go_big_quiet_step (first | (go_at_call 120; with_reducible exact nt_21 _ _) | (go_at_call 120; with_reducible exact nt_26 _ _) | (go_at_call 119; exact nt_10 _ _) | (go_at_call 120; exact nt_21 _ _) | (go_at_call 120; exact nt_26 _ _)))
          refine wpQuiet_nil ?_
          intro Y4 hY4
          replace hY4 := below_class hY4
          clear nt_10 nt_21 nt_26
          replace ct_8_0 := Hct_8_0.out
          clear Hct_8_0
          replace ct_8_1 := Hct_8_1.out
          clear Hct_8_1
          replace ct_8_2 := Hct_8_2.out
          clear Hct_8_2
          replace ct_8_3 := Hct_8_3.out
          clear Hct_8_3
          replace ct_19_0 := Hct_19_0.out
          clear Hct_19_0
          replace ct_19_1 := Hct_19_1.out
          clear Hct_19_1
          replace ct_19_2 := Hct_19_2.out
          clear Hct_19_2
          replace ct_19_3 := Hct_19_3.out
          clear Hct_19_3
          have HBY4 := Lib.hid (Below.step HBwr0.out hY4)
          replace ct_8_0 := cell_below hY4 ct_8_0
          replace ct_8_1 := cell_below hY4 ct_8_1
          replace ct_8_2 := cell_below hY4 ct_8_2
          replace ct_8_3 := cell_below hY4 ct_8_3
          replace ct_19_0 := cell_below hY4 ct_19_0
          replace ct_19_1 := cell_below hY4 ct_19_1
          replace ct_19_2 := cell_below hY4 ct_19_2
          replace ct_19_3 := cell_below hY4 ct_19_3
          clear hY4
          cases t_27 with
          | false =>
            replace H := ite_f H
            replace H := app_hid H
            go_wp2_with fail
            go_roundg m0
            case measure => omega
            case rel => exact ⟨k0 + 1, by omega, by go_num, H, HBY4⟩
          | true =>
            replace H := ite_t H
            obtain rfl := ret_hid H
            go_wp2_with fail
            go_ret
            exact ⟨rfl, HBY4.out⟩
end Go.Proofs.Ythkaeighfjadlaa.GsL9Good

/- loop.example/g01062/spec.l9Asked as a plain function, and the contract of the program's: where the plain one has an answer, the program has it. Conditions: slices read as lists. -/
namespace Go.Proofs.Ythkaeighfjadlaa.GsL9Asked
set_option linter.unusedVariables false
set_option linter.unusedSimpArgs false
open Go.RowKit
open Go.Proofs.Ythkaeighfjadlaa.Rowed Go.Proofs.Ythkaeighfjadlaa.Turn Go.Proofs.Ythkaeighfjadlaa.Aid Go.Proofs.Ythkaeighfjadlaa.GoP Go.Proofs.Ythkaeighfjadlaa.GoM

def P (list : (List Go.Proofs.Ythkaeighfjadlaa.PMail.Mail)) (from_1 : Int) (minute : Int) : Option (Bool) :=
  Option.bind (Go.Proofs.Ythkaeighfjadlaa.GsL9Good.P list) fun (t_2 : Bool) =>
  joinK (fun (t_6 : Bool) =>
  joinK (fun (t_10 : Bool) =>
  some t_10) fun jt_10 => iteK t_6 (Option.bind (Go.Proofs.Ythkaeighfjadlaa.GsL9Minute.P minute) fun (t_9 : Bool) =>
  appK jt_10 t_9) (appK jt_10 false)) fun jt_6 => iteK t_2 (Option.bind (Go.Proofs.Ythkaeighfjadlaa.GsL9Office.P from_1) fun (t_5 : Bool) =>
  appK jt_6 t_5) (appK jt_6 false)

set_option maxRecDepth 100000 in
set_option maxHeartbeats 2000000 in
theorem C (list : (List Go.Proofs.Ythkaeighfjadlaa.PMail.Mail)) (from_1 : Int) (minute : Int) (A0 : Option Addr) (c0 : Nat)  (w : World) (M0 : Hid (Cells w 4 A0 list.length (Go.Proofs.Ythkaeighfjadlaa.PMail.flat list))) (N0 : Hid (list.length ≤ 9223372036854775807))  {r : Bool} (H : Hid (P list from_1 minute = some r)) :
    Calls Try.prog 69 #[.slice A0 list.length c0, .int .i64 from_1, .int .i64 minute] w (Gives (.bool r) w) := by
  have HB := Lib.hid (Below.refl w.heap.size w)
  unfold P at H
  have N0o := N0.out
  go_enter Try.func69, Try.ntmps69
  replace H := bind_hid H
  obtain ⟨t_2, qt_2, H⟩ := H
  go_wp2_with fail
  go_at_call 65
  refine (Go.Proofs.Ythkaeighfjadlaa.GsL9Good.C (list) A0 c0 _   (Lib.hid (Cells.below M0.out HB.out)) N0 qt_2).mono ?_
  rintro e_t_2 wt_2 ⟨rfl, bt_2⟩
  have HBwt_2 := Lib.hid (Below.step HB.out bt_2)
  clear bt_2
  replace H := join_hid H
  cases t_2 with
  | false =>
    replace H := ite_f H
    replace H := app_hid H
    replace H := join_hid H
    replace H := ite_f H
    replace H := app_hid H
    obtain rfl := ret_hid H
    go_wp2_with fail
    go_ret
    exact ⟨rfl, HBwt_2.out⟩
  | true =>
    replace H := ite_t H
    replace H := bind_hid H
    obtain ⟨t_5, qt_5, H⟩ := H
    go_wp2_with fail
    go_at_call 70
    refine (Go.Proofs.Ythkaeighfjadlaa.GsL9Office.C (from_1)  _    qt_5).mono ?_
    rintro e_t_5 wt_5 ⟨rfl, bt_5⟩
    have HBwt_5 := Lib.hid (Below.step HBwt_2.out bt_5)
    clear bt_5
    replace H := app_hid H
    replace H := join_hid H
    cases t_5 with
    | false =>
      replace H := ite_f H
      replace H := app_hid H
      obtain rfl := ret_hid H
      go_wp2_with fail
      go_ret
      exact ⟨rfl, HBwt_5.out⟩
    | true =>
      replace H := ite_t H
      replace H := bind_hid H
      obtain ⟨t_9, qt_9, H⟩ := H
      go_wp2_with fail
      go_at_call 121
      refine (Go.Proofs.Ythkaeighfjadlaa.GsL9Minute.C (minute)  _    qt_9).mono ?_
      rintro e_t_9 wt_9 ⟨rfl, bt_9⟩
      have HBwt_9 := Lib.hid (Below.step HBwt_5.out bt_9)
      clear bt_9
      replace H := app_hid H
      obtain rfl := ret_hid H
      go_wp2_with fail
      go_ret
      exact ⟨rfl, HBwt_9.out⟩
end Go.Proofs.Ythkaeighfjadlaa.GsL9Asked

/- loop.example/g01062/spec.l1Least as a plain function, and the contract of the program's: where the plain one has an answer, the program has it. Conditions: slices read as lists. -/
namespace Go.Proofs.Ythkaeighfjadlaa.GsL1Least
set_option linter.unusedVariables false
set_option linter.unusedSimpArgs false
open Go.RowKit
open Go.Proofs.Ythkaeighfjadlaa.Rowed Go.Proofs.Ythkaeighfjadlaa.Turn Go.Proofs.Ythkaeighfjadlaa.Aid Go.Proofs.Ythkaeighfjadlaa.GoP Go.Proofs.Ythkaeighfjadlaa.GoM

def P (a : Int) (b : Int) : Option (Int) :=
  letK (decide (a < b)) fun (t_3 : Bool) =>
  iteK t_3
  (some a)
  (some b)

set_option maxRecDepth 100000 in
set_option maxHeartbeats 2000000 in
theorem C (a : Int) (b : Int)   (w : World)   {r : Int} (H : Hid (P a b = some r)) :
    Calls Try.prog 117 #[.int .i64 a, .int .i64 b] w (Gives (.int .i64 r) w) := by
  have HB := Lib.hid (Below.refl w.heap.size w)
  unfold P at H
  go_enter Try.func117, Try.ntmps117
  replace H := let_hid H
  obtain ⟨t_3, ht_3, H⟩ := H
  cases t_3 with
  | false =>
    replace H := ite_f H
    obtain rfl := ret_hid H
    go_wp2_with fail
    go_ret
    exact ⟨rfl, HB.out⟩
  | true =>
    replace H := ite_t H
    obtain rfl := ret_hid H
    go_wp2_with fail
    go_ret
    exact ⟨rfl, HB.out⟩

set_option maxRecDepth 100000 in
set_option maxHeartbeats 2000000 in
theorem C0 (a : Int) (b : Int)   (w : World)   {r : Int} (H : Hid (P a b = some r)) :
    Calls Try.prog 117 #[.int .i64 a, .int .i64 b] w (fun e w'' => e = .returned (.int .i64 r) ∧ w'' = w) := by
  have HB := Lib.hid (Below.refl w.heap.size w)
  unfold P at H
  go_enter Try.func117, Try.ntmps117
  replace H := let_hid H
  obtain ⟨t_3, ht_3, H⟩ := H
  cases t_3 with
  | false =>
    replace H := ite_f H
    obtain rfl := ret_hid H
    go_wp2_with fail
    go_ret
    exact ⟨rfl, rfl⟩
  | true =>
    replace H := ite_t H
    obtain rfl := ret_hid H
    go_wp2_with fail
    go_ret
    exact ⟨rfl, rfl⟩
end Go.Proofs.Ythkaeighfjadlaa.GsL1Least

/- loop.example/g01062/spec.l9Times as a plain function, and the contract of the program's: where the plain one has an answer, the program has it. Conditions: slices read as lists. -/
namespace Go.Proofs.Ythkaeighfjadlaa.GsL9Times
set_option linter.unusedVariables false
set_option linter.unusedSimpArgs false
open Go.RowKit
open Go.Proofs.Ythkaeighfjadlaa.Rowed Go.Proofs.Ythkaeighfjadlaa.Turn Go.Proofs.Ythkaeighfjadlaa.Aid Go.Proofs.Ythkaeighfjadlaa.GoP Go.Proofs.Ythkaeighfjadlaa.GoM

def l0  (k0 : Nat) (s : (List Int)) (nx0 bk0 : (List Int) → Option ((List Int))) : Option ((List Int)) :=
  letK s fun out_7l0 =>
  Option.bind (idx out_7l0 (k0 : Int)) fun (yt_10 : Int) =>
  letK (out_7l0.set k0 10000) fun (l11_11 : (List Int)) =>
  appK nx0 (l11_11)

def l1 (list : (List Go.Proofs.Ythkaeighfjadlaa.PMail.Mail)) (k1 : Nat) (s : (List Int)) (nx1 bk1 : (List Int) → Option ((List Int))) : Option ((List Int)) :=
  letK s fun out_7l1 =>
  Option.bind (idx list (k1 : Int)) fun (yt_27 : Go.Proofs.Ythkaeighfjadlaa.PMail.Mail) =>
  unMail yt_27 fun (t_27_leave : Int) (t_27_from_ : Int) (t_27_to_ : Int) (t_27_arrive : Int) =>
  Option.bind (idx out_7l1 t_27_from_) fun (yt_34 : Int) =>
  letK (decide (yt_34 ≤ t_27_leave)) fun (t_38 : Bool) =>
  iteK t_38
  (Option.bind (idx out_7l1 t_27_to_) fun (yt_45 : Int) =>
  Option.bind (Go.Proofs.Ythkaeighfjadlaa.GsL1Least.P yt_45 t_27_arrive) fun (t_49 : Int) =>
  Option.bind (idx out_7l1 t_27_to_) fun (yt_50 : Int) =>
  letK (out_7l1.set (t_27_to_).toNat t_49) fun (l51_51 : (List Int)) =>
  appK nx1 (l51_51))
  (appK nx1 (out_7l1))

def e1  (s : (List Int)) : Option ((List Int)) :=
  letK s fun out_7l1 =>
  some out_7l1

def e0 (list : (List Go.Proofs.Ythkaeighfjadlaa.PMail.Mail)) (from_1 : Int) (minute : Int) (s : (List Int)) : Option ((List Int)) :=
  letK s fun out_7l0 =>
  Option.bind (idx out_7l0 from_1) fun (yt_18 : Int) =>
  letK (out_7l0.set (from_1).toNat minute) fun (l19_19 : (List Int)) =>
  cntK (l1 list) (list.length) 0 (l19_19) (e1 )

def P (list : (List Go.Proofs.Ythkaeighfjadlaa.PMail.Mail)) (from_1 : Int) (minute : Int) : Option ((List Int)) :=
  guardK (0 ≤ 10 ∧ 10 ≤ 1099511627776) <|
  letK (List.replicate 10 0) fun (t_1 : (List Int)) =>
  cntK (l0 ) (t_1.length) 0 (t_1) (e0 list from_1 minute)

set_option maxRecDepth 100000 in
set_option maxHeartbeats 2000000 in
theorem C (list : (List Go.Proofs.Ythkaeighfjadlaa.PMail.Mail)) (from_1 : Int) (minute : Int) (A0 : Option Addr) (c0 : Nat)  (w : World) (M0 : Hid (Cells w 4 A0 list.length (Go.Proofs.Ythkaeighfjadlaa.PMail.flat list))) (N0 : Hid (list.length ≤ 9223372036854775807))  {r : (List Int)} (H : Hid (P list from_1 minute = some r)) :
    Calls Try.prog 62 #[.slice A0 list.length c0, .int .i64 from_1, .int .i64 minute] w (fun e w' => ∃ A_r c_r, e = .returned (.slice A_r r.length c_r) ∧ w'.ownsRow w.heap.size 3 1 (.slice A_r r.length c_r) r.length (Go.Proofs.Ythkaeighfjadlaa.HelpInt.iv r) ∧ Below w.heap.size w w') := by
  have HB := Lib.hid (Below.refl w.heap.size w)
  unfold P at H
  have N0o := N0.out
  obtain ⟨i0_3, hi_3, hz0_3, hz1_3, hz2_3⟩ := Aid.info_parts (P := Try.prog) (T := 3) (z := .int .i64 0) (s := 1) (b := 8) (by kernel_rfl)
  go_enter Try.func62, Try.ntmps62
  replace H := guard_hid H
  obtain ⟨hnt_1, H⟩ := H
  replace H := let_hid H
  obtain ⟨t_1, ht_1, H⟩ := H
  have hst_1 := HB.out.size
  have hlt_1 : t_1.length = 10 := by rw [← ht_1]; simp
  have hht_1 := Lib.hid ht_1
  clear ht_1
  go_wp2_with (at_make; refine wpList_make_full _ rfl _ _ 27 rfl w.heap.size 3 i0_3 (.int .i64 0) 1 Try.underlying27 hi_3 hz0_3 hz1_3 .i64 .i64 _ _ 10 rfl rfl (by omega) (by omega) (by rw [hz2_3]; omega) (by unfold maxLen; omega) hst_1 ?_; intro wt_1 ot_1 gt_1; have Qt_1 := Lib.hid ot_1; have Gt_1 := Lib.hid gt_1; clear ot_1 gt_1; refine stop_in ?_)
  refine stop_out ?_
  have Et_1 : (Go.Proofs.Ythkaeighfjadlaa.HelpInt.iv t_1) = (madeCells (.int .i64 0 : Value).cells (10 * 1)).toList := by
    rw [made_flat (fun x => [.int .i64 x]) 0 _ 1 _ rfl rfl (by decide), ← hht_1.out]
    exact map_flat _ _
  have Pt_1 : Hid (wt_1.ownsRow w.heap.size 3 1 (.slice (some ⟨w.heap.size, 0, none⟩) 10 10) 10 (Go.Proofs.Ythkaeighfjadlaa.HelpInt.iv t_1)) := Lib.hid (by rw [Et_1]; exact Qt_1.out)
  clear Et_1
  replace hlt_1 := Lib.hid hlt_1
  clear Qt_1 hst_1
  have bt_1 : Below w.heap.size w wt_1 := (Below.refl _ _).grown Gt_1.out (Nat.le_refl _) (by simp)
  clear Gt_1
  have HBwt_1 := Lib.hid (Below.step HB.out bt_1)
  clear bt_1
  go_wp2_with fail
  go_wp2_with fail
  have hc_ := hlt_1.out
  have hv_ : (Value.slice (some ⟨w.heap.size, 0, none⟩) 10 10 : Value) = Value.slice (some ⟨w.heap.size, 0, none⟩) t_1.length 10 := by rw [hc_]
  try rw [hv_]
  replace Pt_1 := Lib.hid (own_len hc_ Pt_1.out)
  clear hc_ hv_
  have hb_0 : t_1.length ≤ 9223372036854775807 := own_max Pt_1.out
  go_wp2_with fail
  go_loopg [8] (t_1.length) (fun m_ v8_ wr => ∃ (k0 : Nat) (out_7l0 : (List Int)), k0 + m_ = t_1.length ∧ v8_ = .int .i64 (k0 : Int) ∧ Hid (cntK (l0 ) m_ k0 (out_7l0) (e0 list from_1 minute) = some r) ∧ Hid (Below w.heap.size w wr) ∧ Hid (wr.ownsRow w.heap.size 3 1 (.slice (some ⟨w.heap.size, 0, none⟩) t_1.length 10) t_1.length (Go.Proofs.Ythkaeighfjadlaa.HelpInt.iv out_7l0)) ∧ Hid (out_7l0.length = t_1.length))
  case atStart => exact ⟨0, _, by omega, rfl, H, HBwt_1, Pt_1, Lib.hid (rfl)⟩
  case round =>
    obtain ⟨k0, out_7l0, hkm0, rfl, H, HBwr0, Oout_7l0, hnout_7l0⟩ := hrel
    rename World => wr0
    cases gk with
    | zero =>
      obtain rfl : k0 = t_1.length := by omega
      have hc0 : decide (((t_1.length : Nat) : Int) < ((t_1.length : Nat) : Int)) = false := by simp
      replace H := cnt_zero H
      unfold e0 at H
      replace H := let_hid H
      obtain ⟨_, rfl, H⟩ := H
      replace H := idx_hid H
      obtain ⟨nt_18, yt_18, et_18, lt_18, gt_18, H⟩ := H
      subst et_18
      have hqt_18 := hnout_7l0.out
      obtain ⟨ab_t_18, ao_t_18, zt_18, At_18, z_t_18, ct_18_0⟩ := Go.Proofs.Ythkaeighfjadlaa.HelpInt.Ints.at_ (own_cells Oout_7l0.out) (k := nt_18) (by omega)
      obtain rfl := Option.some.inj (gt_18.out.symm.trans z_t_18)
      simp only [Option.some.injEq, Addr.mk.injEq] at At_18
      obtain ⟨rfl, rfl, _⟩ := At_18
      clear z_t_18
      simp only [Nat.zero_add] at ct_18_0
      have b0t_18 : (0 : Int) ≤ (nt_18 : Int) := by omega
      have b1t_18 : (nt_18 : Int) < ((t_1.length : Nat) : Int) := by omega
      have b2t_18 : ((nt_18 : Int)).toNat = nt_18 := by omega
      clear hqt_18
      replace H := let_hid H
      obtain ⟨l19_19, hl19_19, H⟩ := H
      try simp only [Int.toNat_natCast] at hl19_19
      obtain ⟨wl19_19, hwl19_19⟩ : ∃ x, (wr0).setCell ⟨w.heap.size, nt_18, none⟩ (.int .i64 minute) = x := ⟨_, rfl⟩
      have z0l19_19 := Oout_7l0.out.frozenAt (nt_18)
      have Sl19_19 := Lib.hid (own_stores [(nt_18, .int .i64 minute)] Oout_7l0.out)
      have nl19_19 : Hid (l19_19.length = t_1.length) := Lib.hid (by rw [← hl19_19, List.length_set]; exact hnout_7l0.out)
      have Pl19_19 : Hid (wl19_19.ownsRow w.heap.size 3 1 (.slice (some ⟨w.heap.size, 0, none⟩) t_1.length 10) t_1.length (Go.Proofs.Ythkaeighfjadlaa.HelpInt.iv l19_19)) := Lib.hid (by have e_ : ([(nt_18, .int .i64 minute)] : List (Nat × Value)).foldl (fun xs p => xs.set p.1 p.2) (Go.Proofs.Ythkaeighfjadlaa.HelpInt.iv out_7l0) = (Go.Proofs.Ythkaeighfjadlaa.HelpInt.iv l19_19) := (by rw [← hl19_19]; first | done | simp [Go.Proofs.Ythkaeighfjadlaa.HelpInt.iv, List.map_set]); rw [← hwl19_19, ← e_]; exact Sl19_19.out.1)
      have Gl19_19 : Hid (wr0.grownBy wl19_19 (Value.slice (some ⟨w.heap.size, 0, none⟩) t_1.length 10).ownBlock) := Lib.hid (by rw [← hwl19_19]; exact Sl19_19.out.2)
      have HBwl19_19 := Lib.hid (HBwr0.out.grown Gl19_19.out HBwr0.out.size (fun q hq => (Oout_7l0.out.lt q hq).1))
      have hhl19_19 := Lib.hid hl19_19
      clear hl19_19 Sl19_19
      clear Oout_7l0 Gl19_19
      go_wp2_with fail
      clear z0l19_19 ct_18_0
      go_wp2_with fail
      go_loopg [9] (list.length) (fun m_ v9_ wr => ∃ (k1 : Nat) (out_7l1 : (List Int)), k1 + m_ = list.length ∧ v9_ = .int .i64 (k1 : Int) ∧ Hid (cntK (l1 list) m_ k1 (out_7l1) (e1 ) = some r) ∧ Hid (Below w.heap.size w wr) ∧ Hid (wr.ownsRow w.heap.size 3 1 (.slice (some ⟨w.heap.size, 0, none⟩) t_1.length 10) t_1.length (Go.Proofs.Ythkaeighfjadlaa.HelpInt.iv out_7l1)) ∧ Hid (out_7l1.length = t_1.length))
      case atStart => exact ⟨0, _, by omega, rfl, H, HBwl19_19, Pl19_19, Lib.hid (nl19_19.out)⟩
      case round =>
        obtain ⟨k1, out_7l1, hkm1, rfl, H, HBwr1, Oout_7l1, hnout_7l1⟩ := hrel
        rename World => wr1
        cases gk with
        | zero =>
          obtain rfl : k1 = list.length := by omega
          have hc1 : decide (((list.length : Nat) : Int) < ((list.length : Nat) : Int)) = false := by simp
          replace H := cnt_zero H
          unfold e1 at H
          replace H := let_hid H
          obtain ⟨_, rfl, H⟩ := H
          obtain rfl := ret_hid H
          go_wp2_with fail
          go_ret
          have hr_0 := hnout_7l1.out
          replace Oout_7l1 := Lib.hid (own_len hr_0 Oout_7l1.out)
          exact ⟨(some ⟨w.heap.size, 0, none⟩), 10, (by first | (rw [hr_0]; done) | (rw [hr_0]; rfl)), Oout_7l1.out, HBwr1.out⟩
        | succ m1 =>
          have hlt1 : k1 < list.length := by omega
          have hc1 : decide ((k1 : Int) < ((list.length : Nat) : Int)) = true := by simp; omega
          replace H := cnt_succ H
          unfold l1 at H
          replace H := let_hid H
          obtain ⟨_, rfl, H⟩ := H
          replace H := idx_hid H
          obtain ⟨nt_27, yt_27, et_27, lt_27, gt_27, H⟩ := H
          obtain rfl : k1 = nt_27 := by omega
          clear et_27
          obtain ⟨t_27_leave, t_27_from_, t_27_to_, t_27_arrive⟩ := yt_27
          replace H := unMail_hid H
          obtain ⟨ab_t_27, ao_t_27, zt_27, At_27, z_t_27, ct_27_0, ct_27_1, ct_27_2, ct_27_3⟩ := Go.Proofs.Ythkaeighfjadlaa.OMail.at_ M0.out lt_27
          obtain rfl := Option.some.inj (gt_27.out.symm.trans z_t_27)
          subst At_27
          have ltt_27 := cell_lt ct_27_0
          replace ct_27_0 := cell_below HBwr1.out ct_27_0
          replace ct_27_1 := cell_below HBwr1.out ct_27_1
          replace ct_27_2 := cell_below HBwr1.out ct_27_2
          replace ct_27_3 := cell_below HBwr1.out ct_27_3
          clear z_t_27
          have b0t_27 : (0 : Int) ≤ (k1 : Int) := by omega
          have b1t_27 : (k1 : Int) < ((list.length : Nat) : Int) := by omega
          have b2t_27 : ((k1 : Int)).toNat = k1 := by omega
          obtain ⟨w_x_29, hw_x_29⟩ : ∃ x, wr1.alloc (.cells #[.int .i64 t_27_leave, .int .i64 t_27_from_, .int .i64 t_27_to_, .int .i64 t_27_arrive] 93) = x := ⟨_, rfl⟩
          have bw_x_29 : Below wr1.heap.size wr1 w_x_29 := by rw [← hw_x_29]; exact (Below.refl _ _).alloc (Nat.le_refl _) _
          have Dx_29_out_7l1 := Lib.hid (apart_fresh Oout_7l1.out)
          have HBw_x_29 := Lib.hid (Below.step HBwr1.out bw_x_29)
          have ct_27_0__327 := cell_below bw_x_29 ct_27_0
          have ct_27_1__328 := cell_below bw_x_29 ct_27_1
          have ct_27_2__329 := cell_below bw_x_29 ct_27_2
          have ct_27_3__330 := cell_below bw_x_29 ct_27_3
          replace Oout_7l1 := Lib.hid (own_below Oout_7l1.out bw_x_29)
          clear bw_x_29
          have kx_29_0 : w_x_29.cell? ⟨wr1.heap.size, 0, none⟩ = some (.int .i64 t_27_leave) := by rw [← hw_x_29]; exact box_new _ _ _ 0 _ rfl
          have kx_29_1 : w_x_29.cell? ⟨wr1.heap.size, 1, none⟩ = some (.int .i64 t_27_from_) := by rw [← hw_x_29]; exact box_new _ _ _ 1 _ rfl
          have kx_29_2 : w_x_29.cell? ⟨wr1.heap.size, 2, none⟩ = some (.int .i64 t_27_to_) := by rw [← hw_x_29]; exact box_new _ _ _ 2 _ rfl
          have kx_29_3 : w_x_29.cell? ⟨wr1.heap.size, 3, none⟩ = some (.int .i64 t_27_arrive) := by rw [← hw_x_29]; exact box_new _ _ _ 3 _ rfl
          go_wp2_with fail
          clear ct_27_0 ct_27_1 ct_27_2 ct_27_3
          have Hct_27_0__327 := Lib.hid ct_27_0__327
          replace ct_27_0__327 := cell_regrown ct_27_0__327
          have Hct_27_1__328 := Lib.hid ct_27_1__328
          replace ct_27_1__328 := cell_regrown ct_27_1__328
          have Hct_27_2__329 := Lib.hid ct_27_2__329
          replace ct_27_2__329 := cell_regrown ct_27_2__329
          have Hct_27_3__330 := Lib.hid ct_27_3__330
          replace ct_27_3__330 := cell_regrown ct_27_3__330
          have Hkx_29_0 := Lib.hid kx_29_0
          replace kx_29_0 := cell_regrown kx_29_0
          have Hkx_29_1 := Lib.hid kx_29_1
          replace kx_29_1 := cell_regrown kx_29_1
          have Hkx_29_2 := Lib.hid kx_29_2
          replace kx_29_2 := cell_regrown kx_29_2
          have Hkx_29_3 := Lib.hid kx_29_3
          replace kx_29_3 := cell_regrown kx_29_3
          replace H := idx_hid H
          obtain ⟨nt_34, yt_34, et_34, lt_34, gt_34, H⟩ := H
          subst et_34
          have hqt_34 := hnout_7l1.out
          obtain ⟨ab_t_34, ao_t_34, zt_34, At_34, z_t_34, ct_34_0⟩ := Go.Proofs.Ythkaeighfjadlaa.HelpInt.Ints.at_ (own_cells Oout_7l1.out) (k := nt_34) (by omega)
          obtain rfl := Option.some.inj (gt_34.out.symm.trans z_t_34)
          simp only [Option.some.injEq, Addr.mk.injEq] at At_34
          obtain ⟨rfl, rfl, _⟩ := At_34
          clear z_t_34
          simp only [Nat.zero_add] at ct_34_0
          have b0t_34 : (0 : Int) ≤ (nt_34 : Int) := by omega
          have b1t_34 : (nt_34 : Int) < ((t_1.length : Nat) : Int) := by omega
          have b2t_34 : ((nt_34 : Int)).toNat = nt_34 := by omega
          clear hqt_34
          have Hct_34_0 := Lib.hid ct_34_0
          replace ct_34_0 := cell_regrown ct_34_0
          replace H := let_hid H
          obtain ⟨t_38, ht_38, H⟩ := H
          refine wp_region_quiet_below (by kernel_rfl) (by kernel_rfl) ?_
          repeat (go_big_quiet_step (fail))
          refine wpQuiet_nil ?_
          intro Y11 hY11
          replace hY11 := below_class hY11
          replace ct_27_0__327 := Hct_27_0__327.out
          clear Hct_27_0__327
          replace ct_27_1__328 := Hct_27_1__328.out
          clear Hct_27_1__328
          replace ct_27_2__329 := Hct_27_2__329.out
          clear Hct_27_2__329
          replace ct_27_3__330 := Hct_27_3__330.out
          clear Hct_27_3__330
          replace kx_29_0 := Hkx_29_0.out
          clear Hkx_29_0
          replace kx_29_1 := Hkx_29_1.out
          clear Hkx_29_1
          replace kx_29_2 := Hkx_29_2.out
          clear Hkx_29_2
          replace kx_29_3 := Hkx_29_3.out
          clear Hkx_29_3
          replace ct_34_0 := Hct_34_0.out
          clear Hct_34_0
          have HBY11 := Lib.hid (Below.step HBw_x_29.out hY11)
          replace ct_27_0__327 := cell_below hY11 ct_27_0__327
          replace ct_27_1__328 := cell_below hY11 ct_27_1__328
          replace ct_27_2__329 := cell_below hY11 ct_27_2__329
          replace ct_27_3__330 := cell_below hY11 ct_27_3__330
          replace kx_29_0 := cell_below hY11 kx_29_0
          replace kx_29_1 := cell_below hY11 kx_29_1
          replace kx_29_2 := cell_below hY11 kx_29_2
          replace kx_29_3 := cell_below hY11 kx_29_3
          replace ct_34_0 := cell_below hY11 ct_34_0
          replace Oout_7l1 := Lib.hid (own_below Oout_7l1.out hY11)
          clear hY11
          cases t_38 with
          | false =>
            replace H := ite_f H
            replace H := app_hid H
            go_wp2_with fail
            go_roundg m1
            case measure => omega
            case rel => exact ⟨k1 + 1, _, by omega, by go_num, H, HBY11, Oout_7l1, Lib.hid (hnout_7l1.out)⟩
          | true =>
            replace H := ite_t H
            go_wp2_with fail
            obtain ⟨Z12, hZ12⟩ : ∃ x, Y11.drew = x := ⟨_, rfl⟩
            have bd12 : Below Y11.heap.size Y11 Z12 := by rw [← hZ12]; exact (Below.refl _ _).drew
            have HBZ12 := Lib.hid (Below.step HBY11.out bd12)
            replace ct_27_0__327 := cell_below bd12 ct_27_0__327
            replace ct_27_1__328 := cell_below bd12 ct_27_1__328
            replace ct_27_2__329 := cell_below bd12 ct_27_2__329
            replace ct_27_3__330 := cell_below bd12 ct_27_3__330
            replace kx_29_0 := cell_below bd12 kx_29_0
            replace kx_29_1 := cell_below bd12 kx_29_1
            replace kx_29_2 := cell_below bd12 kx_29_2
            replace kx_29_3 := cell_below bd12 kx_29_3
            replace ct_34_0 := cell_below bd12 ct_34_0
            replace Oout_7l1 := Lib.hid (own_below Oout_7l1.out bd12)
            clear bd12
            replace H := idx_hid H
            obtain ⟨nt_45, yt_45, et_45, lt_45, gt_45, H⟩ := H
            subst et_45
            have hqt_45 := hnout_7l1.out
            obtain ⟨ab_t_45, ao_t_45, zt_45, At_45, z_t_45, ct_45_0⟩ := Go.Proofs.Ythkaeighfjadlaa.HelpInt.Ints.at_ (own_cells Oout_7l1.out) (k := nt_45) (by omega)
            obtain rfl := Option.some.inj (gt_45.out.symm.trans z_t_45)
            simp only [Option.some.injEq, Addr.mk.injEq] at At_45
            obtain ⟨rfl, rfl, _⟩ := At_45
            clear z_t_45
            simp only [Nat.zero_add] at ct_45_0
            have b0t_45 : (0 : Int) ≤ (nt_45 : Int) := by omega
            have b1t_45 : (nt_45 : Int) < ((t_1.length : Nat) : Int) := by omega
            have b2t_45 : ((nt_45 : Int)).toNat = nt_45 := by omega
            clear hqt_45
            replace H := bind_hid H
            obtain ⟨t_49, qt_49, H⟩ := H
            replace H := idx_hid H
            obtain ⟨nt_50, yt_50, et_50, lt_50, gt_50, H⟩ := H
            obtain rfl : nt_45 = nt_50 := by omega
            clear et_50
            obtain rfl := Option.some.inj (gt_45.out.symm.trans gt_50.out)
            clear gt_50 lt_50
            refine wp_region_still_tail 12 (by kernel_rfl) (by kernel_rfl) ?_
            simp only [List.take_succ_cons, List.take_zero, List.drop_succ_cons, List.drop_zero]
            change wpStill _ _ Y11.drew _ _ _
            rw [hZ12]
            still_step
            still_step
            still_step
            still_step
            still_step
            still_step
            still_step
            still_step
            still_step
            still_step
            still_call (Go.Proofs.Ythkaeighfjadlaa.GsL1Least.C0 (yt_45) (t_27_arrive)  _    qt_49)
            still_step
            refine wpStill_nil ?_
            change wpList _ _ _ _ _ Y11.drew
            rw [hZ12]
            clear hZ12
            replace H := let_hid H
            obtain ⟨l51_51, hl51_51, H⟩ := H
            try simp only [Int.toNat_natCast] at hl51_51
            obtain ⟨wl51_51, hwl51_51⟩ : ∃ x, (Z12).setCell ⟨w.heap.size, nt_45, none⟩ (.int .i64 t_49) = x := ⟨_, rfl⟩
            have z0l51_51 := Oout_7l1.out.frozenAt (nt_45)
            have Sl51_51 := Lib.hid (own_stores [(nt_45, .int .i64 t_49)] Oout_7l1.out)
            have nl51_51 : Hid (l51_51.length = t_1.length) := Lib.hid (by rw [← hl51_51, List.length_set]; exact hnout_7l1.out)
            have Pl51_51 : Hid (wl51_51.ownsRow w.heap.size 3 1 (.slice (some ⟨w.heap.size, 0, none⟩) t_1.length 10) t_1.length (Go.Proofs.Ythkaeighfjadlaa.HelpInt.iv l51_51)) := Lib.hid (by have e_ : ([(nt_45, .int .i64 t_49)] : List (Nat × Value)).foldl (fun xs p => xs.set p.1 p.2) (Go.Proofs.Ythkaeighfjadlaa.HelpInt.iv out_7l1) = (Go.Proofs.Ythkaeighfjadlaa.HelpInt.iv l51_51) := (by rw [← hl51_51]; first | done | simp [Go.Proofs.Ythkaeighfjadlaa.HelpInt.iv, List.map_set]); rw [← hwl51_51, ← e_]; exact Sl51_51.out.1)
            have Gl51_51 : Hid (Z12.grownBy wl51_51 (Value.slice (some ⟨w.heap.size, 0, none⟩) t_1.length 10).ownBlock) := Lib.hid (by rw [← hwl51_51]; exact Sl51_51.out.2)
            have HBwl51_51 := Lib.hid (HBZ12.out.grown Gl51_51.out HBZ12.out.size (fun q hq => (Oout_7l1.out.lt q hq).1))
            have hhl51_51 := Lib.hid hl51_51
            clear hl51_51 Sl51_51
            have ct_27_0__331 := cell_other ct_27_0__327 Gl51_51.out (apart_old Oout_7l1.out ltt_27)
            have ct_27_1__332 := cell_other ct_27_1__328 Gl51_51.out (apart_old Oout_7l1.out ltt_27)
            have ct_27_2__333 := cell_other ct_27_2__329 Gl51_51.out (apart_old Oout_7l1.out ltt_27)
            have ct_27_3__334 := cell_other ct_27_3__330 Gl51_51.out (apart_old Oout_7l1.out ltt_27)
            have kx_29_0__335 := cell_other kx_29_0 Gl51_51.out (Apart.symm Dx_29_out_7l1.out)
            have kx_29_1__336 := cell_other kx_29_1 Gl51_51.out (Apart.symm Dx_29_out_7l1.out)
            have kx_29_2__337 := cell_other kx_29_2 Gl51_51.out (Apart.symm Dx_29_out_7l1.out)
            have kx_29_3__338 := cell_other kx_29_3 Gl51_51.out (Apart.symm Dx_29_out_7l1.out)
            clear Oout_7l1 Gl51_51
            replace H := app_hid H
            go_wp2_with fail
            clear z0l51_51 ct_27_0__327 ct_27_1__328 ct_27_2__329 ct_27_3__330 kx_29_0 kx_29_1 kx_29_2 kx_29_3 ct_34_0 ct_45_0
            go_roundg m1
            case measure => omega
            case rel => exact ⟨k1 + 1, _, by omega, by go_num, H, HBwl51_51, Pl51_51, Lib.hid (nl51_51.out)⟩
    | succ m0 =>
      have hlt0 : k0 < t_1.length := by omega
      have hc0 : decide ((k0 : Int) < ((t_1.length : Nat) : Int)) = true := by simp; omega
      replace H := cnt_succ H
      unfold l0 at H
      replace H := let_hid H
      obtain ⟨_, rfl, H⟩ := H
      replace H := idx_hid H
      obtain ⟨nt_10, yt_10, et_10, lt_10, gt_10, H⟩ := H
      obtain rfl : k0 = nt_10 := by omega
      clear et_10
      have hqt_10 := hnout_7l0.out
      obtain ⟨ab_t_10, ao_t_10, zt_10, At_10, z_t_10, ct_10_0⟩ := Go.Proofs.Ythkaeighfjadlaa.HelpInt.Ints.at_ (own_cells Oout_7l0.out) (k := k0) (by omega)
      obtain rfl := Option.some.inj (gt_10.out.symm.trans z_t_10)
      simp only [Option.some.injEq, Addr.mk.injEq] at At_10
      obtain ⟨rfl, rfl, _⟩ := At_10
      clear z_t_10
      simp only [Nat.zero_add] at ct_10_0
      have b0t_10 : (0 : Int) ≤ (k0 : Int) := by omega
      have b1t_10 : (k0 : Int) < ((t_1.length : Nat) : Int) := by omega
      have b2t_10 : ((k0 : Int)).toNat = k0 := by omega
      clear hqt_10
      replace H := let_hid H
      obtain ⟨l11_11, hl11_11, H⟩ := H
      try simp only [Int.toNat_natCast] at hl11_11
      obtain ⟨wl11_11, hwl11_11⟩ : ∃ x, (wr0).setCell ⟨w.heap.size, k0, none⟩ (.int .i64 10000) = x := ⟨_, rfl⟩
      have z0l11_11 := Oout_7l0.out.frozenAt (k0)
      have Sl11_11 := Lib.hid (own_stores [(k0, .int .i64 10000)] Oout_7l0.out)
      have nl11_11 : Hid (l11_11.length = t_1.length) := Lib.hid (by rw [← hl11_11, List.length_set]; exact hnout_7l0.out)
      have Pl11_11 : Hid (wl11_11.ownsRow w.heap.size 3 1 (.slice (some ⟨w.heap.size, 0, none⟩) t_1.length 10) t_1.length (Go.Proofs.Ythkaeighfjadlaa.HelpInt.iv l11_11)) := Lib.hid (by have e_ : ([(k0, .int .i64 10000)] : List (Nat × Value)).foldl (fun xs p => xs.set p.1 p.2) (Go.Proofs.Ythkaeighfjadlaa.HelpInt.iv out_7l0) = (Go.Proofs.Ythkaeighfjadlaa.HelpInt.iv l11_11) := (by rw [← hl11_11]; first | done | simp [Go.Proofs.Ythkaeighfjadlaa.HelpInt.iv, List.map_set]); rw [← hwl11_11, ← e_]; exact Sl11_11.out.1)
      have Gl11_11 : Hid (wr0.grownBy wl11_11 (Value.slice (some ⟨w.heap.size, 0, none⟩) t_1.length 10).ownBlock) := Lib.hid (by rw [← hwl11_11]; exact Sl11_11.out.2)
      have HBwl11_11 := Lib.hid (HBwr0.out.grown Gl11_11.out HBwr0.out.size (fun q hq => (Oout_7l0.out.lt q hq).1))
      have hhl11_11 := Lib.hid hl11_11
      clear hl11_11 Sl11_11
      clear Oout_7l0 Gl11_11
      replace H := app_hid H
      go_wp2_with fail
      clear z0l11_11 ct_10_0
      go_roundg m0
      case measure => omega
      case rel => exact ⟨k0 + 1, _, by omega, by go_num, H, HBwl11_11, Pl11_11, Lib.hid (nl11_11.out)⟩
end Go.Proofs.Ythkaeighfjadlaa.GsL9Times

/- loop.example/g01062/spec.EarliestAt as a plain function, and the contract of the program's: where the plain one has an answer, the program has it. Conditions: slices read as lists. -/
namespace Go.Proofs.Ythkaeighfjadlaa.GsEarliestAt
set_option linter.unusedVariables false
set_option linter.unusedSimpArgs false
open Go.RowKit
open Go.Proofs.Ythkaeighfjadlaa.Rowed Go.Proofs.Ythkaeighfjadlaa.Turn Go.Proofs.Ythkaeighfjadlaa.Aid Go.Proofs.Ythkaeighfjadlaa.GoP Go.Proofs.Ythkaeighfjadlaa.GoM

def P (list : (List Go.Proofs.Ythkaeighfjadlaa.PMail.Mail)) (from_1 : Int) (minute : Int) (to_3 : Int) : Option (Int × Bool) :=
  Option.bind (Go.Proofs.Ythkaeighfjadlaa.GsL9Asked.P list from_1 minute) fun (t_5 : Bool) =>
  letK (!t_5) fun (t_6 : Bool) =>
  joinK (fun (t_11 : Bool) =>
  iteK t_11
  (some (0, false))
  (Option.bind (Go.Proofs.Ythkaeighfjadlaa.GsL9Times.P list from_1 minute) fun (t_17 : (List Int)) =>
  Option.bind (idx t_17 to_3) fun (yt_19 : Int) =>
  letK (yt_19 == 10000) fun (t_23 : Bool) =>
  iteK t_23
  (some (0, false))
  (some (yt_19, true)))) fun jt_11 => iteK t_6 (appK jt_11 true) (Option.bind (Go.Proofs.Ythkaeighfjadlaa.GsL9Office.P to_3) fun (t_9 : Bool) =>
  letK (!t_9) fun (t_10 : Bool) =>
  appK jt_11 t_10)

set_option maxRecDepth 100000 in
set_option maxHeartbeats 2000000 in
theorem C (list : (List Go.Proofs.Ythkaeighfjadlaa.PMail.Mail)) (from_1 : Int) (minute : Int) (to_3 : Int) (A0 : Option Addr) (c0 : Nat)  (w : World) (M0 : Hid (Cells w 4 A0 list.length (Go.Proofs.Ythkaeighfjadlaa.PMail.flat list))) (N0 : Hid (list.length ≤ 9223372036854775807))  {r0 : Int} {r1 : Bool} (H : Hid (P list from_1 minute to_3 = some (r0, r1))) :
    Calls Try.prog 16 #[.slice A0 list.length c0, .int .i64 from_1, .int .i64 minute, .int .i64 to_3] w (Gives (.tuple #[.int .i64 r0, .bool r1]) w) := by
  have HB := Lib.hid (Below.refl w.heap.size w)
  unfold P at H
  have N0o := N0.out
  go_enter Try.func16, Try.ntmps16
  replace H := bind_hid H
  obtain ⟨t_5, qt_5, H⟩ := H
  go_wp2_with fail
  go_at_call 69
  refine (Go.Proofs.Ythkaeighfjadlaa.GsL9Asked.C (list) (from_1) (minute) A0 c0 _   (Lib.hid (Cells.below M0.out HB.out)) N0 qt_5).mono ?_
  rintro e_t_5 wt_5 ⟨rfl, bt_5⟩
  have HBwt_5 := Lib.hid (Below.step HB.out bt_5)
  clear bt_5
  cases t_5 with
  | false =>
    replace H := let_hid H
    obtain ⟨t_6, ht_6, H⟩ := H
    obtain rfl : t_6 = true := ht_6.symm
    replace H := join_hid H
    replace H := ite_t H
    replace H := app_hid H
    replace H := ite_t H
    cases ret_hid H
    go_wp2_with fail
    go_ret2
    exact ⟨rfl, HBwt_5.out⟩
  | true =>
    replace H := let_hid H
    obtain ⟨t_6, ht_6, H⟩ := H
    obtain rfl : t_6 = false := ht_6.symm
    replace H := join_hid H
    replace H := ite_f H
    replace H := bind_hid H
    obtain ⟨t_9, qt_9, H⟩ := H
    go_wp2_with fail
    go_at_call 70
    refine (Go.Proofs.Ythkaeighfjadlaa.GsL9Office.C (to_3)  _    qt_9).mono ?_
    rintro e_t_9 wt_9 ⟨rfl, bt_9⟩
    have HBwt_9 := Lib.hid (Below.step HBwt_5.out bt_9)
    clear bt_9
    cases t_9 with
    | false =>
      replace H := let_hid H
      obtain ⟨t_10, ht_10, H⟩ := H
      obtain rfl : t_10 = true := ht_10.symm
      replace H := app_hid H
      replace H := ite_t H
      cases ret_hid H
      go_wp2_with fail
      go_ret2
      exact ⟨rfl, HBwt_9.out⟩
    | true =>
      replace H := let_hid H
      obtain ⟨t_10, ht_10, H⟩ := H
      obtain rfl : t_10 = false := ht_10.symm
      replace H := app_hid H
      replace H := ite_f H
      replace H := bind_hid H
      obtain ⟨t_17, qt_17, H⟩ := H
      go_wp2_with fail
      go_at_call 62
      refine (Go.Proofs.Ythkaeighfjadlaa.GsL9Times.C (list) (from_1) (minute) A0 c0 _   (Lib.hid (Cells.below M0.out HBwt_9.out)) N0 qt_17).mono ?_
      rintro e_t_17 wt_17 ⟨At_17, ct_17, rfl, ot_17, bt_17⟩
      have Ot_17 := Lib.hid (own_lower ot_17 HBwt_9.out.size)
      clear ot_17
      have HBwt_17 := Lib.hid (Below.step HBwt_9.out bt_17)
      clear bt_17
      replace H := idx_hid H
      obtain ⟨nt_19, yt_19, et_19, lt_19, gt_19, H⟩ := H
      subst et_19
      obtain ⟨qt_19, Qt_19⟩ := own_some Ot_17.out (by omega)
      subst Qt_19
      obtain ⟨ab_t_19, ao_t_19, zt_19, At_19, z_t_19, ct_19_0⟩ := Go.Proofs.Ythkaeighfjadlaa.HelpInt.Ints.at_ (own_cells Ot_17.out) (k := nt_19) (by omega)
      obtain rfl := Option.some.inj (gt_19.out.symm.trans z_t_19)
      simp only [Option.some.injEq, Addr.mk.injEq] at At_19
      obtain ⟨rfl, rfl, _⟩ := At_19
      clear z_t_19
      simp only [Nat.zero_add] at ct_19_0
      have b0t_19 : (0 : Int) ≤ (nt_19 : Int) := by omega
      have b1t_19 : (nt_19 : Int) < ((t_17.length : Nat) : Int) := by omega
      have b2t_19 : ((nt_19 : Int)).toNat = nt_19 := by omega
      replace H := let_hid H
      obtain ⟨t_23, ht_23, H⟩ := H
      cases t_23 with
      | false =>
        replace H := ite_f H
        cases ret_hid H
        go_wp2_with fail
        go_ret2
        exact ⟨rfl, HBwt_17.out⟩
      | true =>
        replace H := ite_t H
        cases ret_hid H
        go_wp2_with fail
        go_ret2
        exact ⟨rfl, HBwt_17.out⟩
end Go.Proofs.Ythkaeighfjadlaa.GsEarliestAt

