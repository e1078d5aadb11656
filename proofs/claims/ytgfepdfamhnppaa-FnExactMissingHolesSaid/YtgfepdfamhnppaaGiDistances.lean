/- loop.example/g01062/impl.distances as a plain function, and the contract of the program's: where the plain one has an answer, the program has it. Conditions: slices read as lists. -/
import Derived.Test.YtgfepdfamhnppaaChecked
import Derived.Test.YtgfepdfamhnppaaGoM
import Derived.Test.YtgfepdfamhnppaaGoH
import Derived.Test.YtgfepdfamhnppaaHelpInt
import Derived.WalkKit
import Derived.WalkSpells
import Derived.WalkLawsBesides
import Derived.BigQuiet
import Derived.OwnWalk
import Derived.Deep.LoopGhost
import Derived.Deep.QuietTactic
import Derived.IntWalk
import Derived.Lib.QuietBelow
import Derived.Deep.RegionHeld3
namespace Go.Proofs.Ytgfepdfamhnppaa.GiDistances
set_option linter.unusedVariables false
set_option linter.unusedSimpArgs false
open Go.RowKit
open Go.Proofs.Ytgfepdfamhnppaa.Rowed Go.Proofs.Ytgfepdfamhnppaa.Turn Go.Proofs.Ytgfepdfamhnppaa.Aid Go.Proofs.Ytgfepdfamhnppaa.GoP Go.Proofs.Ytgfepdfamhnppaa.GoM

def l0 (holes : (List Int)) (s : (List Int) × Int) (nx0 bk0 : (List Int) × Int → Option ((List Int))) : Option ((List Int)) :=
  unp2 s fun list_3l0 i_4l0 =>
  letK (decide (i_4l0 < (holes.length : Int))) fun (t_7 : Bool) =>
  iteK t_7
  (Option.bind (idx holes i_4l0) fun (yt_11 : Int) =>
  letK (IntKind.i64.wrap (i_4l0 - 1)) fun (t_15 : Int) =>
  Option.bind (idx holes t_15) fun (yt_16 : Int) =>
  letK (IntKind.i64.wrap (yt_11 - yt_16)) fun (t_18 : Int) =>
  guardK (list_3l0.length ≤ 1099511627776) <|
  letK (list_3l0 ++ [t_18]) fun (t_20 : (List Int)) =>
  letK (IntKind.i64.wrap (i_4l0 + 1)) fun (t_23 : Int) =>
  appK nx0 (t_20, t_23))
  (appK bk0 (list_3l0, i_4l0))

def e0  (s : (List Int) × Int) : Option ((List Int)) :=
  unp2 s fun list_3l0 i_4l0 =>
  some list_3l0

def P (fuel : Nat) (holes : (List Int)) : Option ((List Int)) :=
  loopK (l0 holes) fuel (([] : List Int), 1) (e0 )

set_option maxRecDepth 100000 in
set_option maxHeartbeats 2000000 in
theorem C (fuel : Nat) (holes : (List Int)) (A0 : Option Addr) (c0 : Nat)  (w : World) (M0 : Hid (Cells w 1 A0 holes.length (Go.Proofs.Ytgfepdfamhnppaa.HelpInt.iv holes))) (N0 : Hid (holes.length ≤ 9223372036854775807))  {r : (List Int)} (H : Hid (P fuel holes = some r)) :
    Calls Try.prog 53 #[.slice A0 holes.length c0] w (fun e w' => ∃ A_r c_r, e = .returned (.slice A_r r.length c_r) ∧ w'.ownsRow w.heap.size 3 1 (.slice A_r r.length c_r) r.length (Go.Proofs.Ytgfepdfamhnppaa.HelpInt.iv r) ∧ Below w.heap.size w w') := by
  have HB := Lib.hid (Below.refl w.heap.size w)
  unfold P at H
  have N0o := N0.out
  obtain ⟨i0_3, hi_3, hz0_3, hz1_3, hz2_3⟩ := Aid.info_parts (P := Try.prog) (T := 3) (z := .int .i64 0) (s := 1) (b := 8) (by kernel_rfl)
  go_enter Try.func53, Try.ntmps53
  obtain ⟨w_t_1, hw_t_1⟩ : ∃ x, w.alloc (.cells #[] 3) = x := ⟨_, rfl⟩
  have bw_t_1 : Below w.heap.size w w_t_1 := by rw [← hw_t_1]; exact (Below.refl _ _).alloc (Nat.le_refl _) _
  have Ot_1 : Hid (w_t_1.ownsRow w.heap.size 3 1 (.slice (some ⟨w.heap.size, 0, none⟩) 0 0) 0 []) := Lib.hid (by rw [← hw_t_1]; exact own_empty HB.out.size)
  have HBw_t_1 := Lib.hid (Below.step HB.out bw_t_1)
  clear bw_t_1
  go_wp2_with fail
  go_loopg [3, 4] (fuel) (fun m_ v3_ v4_ wr => ∃ (list_3l0 : (List Int)) (i_4l0 : Int) (Alist_3l0 : Option Addr) (clist_3l0 : Nat), v3_ = .slice Alist_3l0 list_3l0.length clist_3l0 ∧ v4_ = .int .i64 i_4l0 ∧ Hid (loopK (l0 holes) m_ (list_3l0, i_4l0) (e0 ) = some r) ∧ Hid (Below w.heap.size w wr) ∧ Hid (wr.ownsRow w.heap.size 3 1 (.slice Alist_3l0 list_3l0.length clist_3l0) list_3l0.length (Go.Proofs.Ytgfepdfamhnppaa.HelpInt.iv list_3l0)))
  case atStart => exact ⟨_, _, _, _, rfl, rfl, H, HBw_t_1, Ot_1⟩
  case round =>
    obtain ⟨list_3l0, i_4l0, Alist_3l0, clist_3l0, rfl, rfl, H, HBwr0, Olist_3l0⟩ := hrel
    rename World => wr0
    cases gk with
    | zero => exact (loop_zero H).elim
    | succ m0 =>
      replace H := loop_succ H
      unfold l0 at H
      replace H := unp2_hid H
      replace H := let_hid H
      obtain ⟨t_7, ht_7, H⟩ := H
      cases t_7 with
      | false =>
        replace H := ite_f H
        replace H := app_hid H
        unfold e0 at H
        replace H := unp2_hid H
        obtain rfl := ret_hid H
        go_wp2_with fail
        go_ret
        exact ⟨Alist_3l0, clist_3l0, rfl, Olist_3l0.out, HBwr0.out⟩
      | true =>
        replace H := ite_t H
        go_wp2_with fail
        have bd5 : Below wr0.heap.size wr0 wr0.drew := (Below.refl _ _).drew
        have HBwr0.drew := Lib.hid (Below.step HBwr0.out bd5)
        replace Olist_3l0 := Lib.hid (own_below Olist_3l0.out bd5)
        clear bd5
        replace H := idx_hid H
        obtain ⟨nt_11, yt_11, et_11, lt_11, gt_11, H⟩ := H
        subst et_11
        obtain ⟨ab_t_11, ao_t_11, zt_11, At_11, z_t_11, ct_11_0⟩ := Go.Proofs.Ytgfepdfamhnppaa.HelpInt.Ints.at_ M0.out lt_11
        obtain rfl := Option.some.inj (gt_11.out.symm.trans z_t_11)
        subst At_11
        have ltt_11 := cell_lt ct_11_0
        replace ct_11_0 := cell_below HBwr0.drew.out ct_11_0
        clear z_t_11
        have b0t_11 : (0 : Int) ≤ (nt_11 : Int) := by omega
        have b1t_11 : (nt_11 : Int) < ((holes.length : Nat) : Int) := by omega
        have b2t_11 : ((nt_11 : Int)).toNat = nt_11 := by omega
        replace H := let_hid H
        obtain ⟨t_15, ht_15, H⟩ := H
        replace H := idx_hid H
        obtain ⟨nt_16, yt_16, et_16, lt_16, gt_16, H⟩ := H
        subst et_16
        obtain ⟨ab_t_16, ao_t_16, zt_16, At_16, z_t_16, ct_16_0⟩ := Go.Proofs.Ytgfepdfamhnppaa.HelpInt.Ints.at_ M0.out lt_16
        obtain rfl := Option.some.inj (gt_16.out.symm.trans z_t_16)
        simp only [Option.some.injEq, Addr.mk.injEq] at At_16
        obtain ⟨rfl, rfl, _⟩ := At_16
        have ltt_16 := cell_lt ct_16_0
        replace ct_16_0 := cell_below HBwr0.drew.out ct_16_0
        clear z_t_16
        have b0t_16 : (0 : Int) ≤ (nt_16 : Int) := by omega
        have b1t_16 : (nt_16 : Int) < ((holes.length : Nat) : Int) := by omega
        have b2t_16 : ((nt_16 : Int)).toNat = nt_16 := by omega
        replace H := let_hid H
        obtain ⟨t_18, ht_18, H⟩ := H
        obtain ⟨w_t_19, hw_t_19⟩ : ∃ x, wr0.drew.alloc (.cells #[.int .i64 t_18] 3) = x := ⟨_, rfl⟩
        have bw_t_19 : Below wr0.drew.heap.size wr0.drew w_t_19 := by rw [← hw_t_19]; exact (Below.refl _ _).alloc (Nat.le_refl _) _
        have HBw_t_19 := Lib.hid (Below.step HBwr0.drew.out bw_t_19)
        have ct_11_0__2 := cell_below bw_t_19 ct_11_0
        have ct_16_0__3 := cell_below bw_t_19 ct_16_0
        replace Olist_3l0 := Lib.hid (own_below Olist_3l0.out bw_t_19)
        clear bw_t_19
        replace H := guard_hid H
        obtain ⟨hlt_20, H⟩ := H
        replace H := let_hid H
        obtain ⟨t_20, ht_20, H⟩ := H
        have hht_20 := Lib.hid ht_20
        clear ht_20
        have hst_20 := HBw_t_19.out.size
        have h1t_20 : list_3l0.length + 1 ≤ maxLen := by unfold maxLen; omega
        have h2t_20 : (list_3l0.length + 1) * 8 ≤ 140737488355328 := by omega
        have h3t_20 := news_new hw_t_19
        go_region_held3 (fun w' => w'.cell? ⟨ab_t_11, ao_t_11 + nt_11, none⟩ = some (.int .i64 yt_11) ∧ w'.cell? ⟨ab_t_11, ao_t_11 + nt_16, none⟩ = some (.int .i64 yt_16)) (first | exact ⟨ct_11_0, ct_16_0⟩ | exact ⟨ct_11_0__2, ct_16_0__3⟩)
            (first
              | (refine Go.Proofs.Ytgfepdfamhnppaa.GoH.step_append_own (w := w_t_19) rfl (.tmp 12) (.tmp 23) 29 rfl w.heap.size 3 i0_3 (.int .i64 0) 1 8 Try.underlying29 hi_3 hz0_3 hz1_3 hz2_3 rfl (by decide) Alist_3l0 clist_3l0 list_3l0.length _ rfl Olist_3l0.out ⟨wr0.drew.heap.size, 0, none⟩ 1 [.int .i64 t_18] rfl rfl h3t_20 (one_cells rfl) h1t_20 h2t_20 hst_20 ?_
                 intro vt_20 wt_20 ot_20 gt_20 yt_20
                 obtain ⟨qt_20, ct_20, rfl, pt_20⟩ := own_push hht_20.out (Go.Proofs.Ytgfepdfamhnppaa.HelpInt.iv_snoc _ _) rfl ot_20
                 have Pt_20 := Lib.hid pt_20
                 have Yt_20 := Lib.hid yt_20
                 have Gt_20 := Lib.hid gt_20
                 clear ot_20 gt_20 pt_20 yt_20
                 have HBwt_20 := Lib.hid (HBw_t_19.out.grown Gt_20.out hst_20 (fun q hq => (Olist_3l0.out.lt q hq).1))
                 clear hst_20
                 replace ct_11_0__2 := cell_other ct_11_0__2 Gt_20.out (apart_old Olist_3l0.out ltt_11)
                 replace ct_16_0__3 := cell_other ct_16_0__3 Gt_20.out (apart_old Olist_3l0.out ltt_16)
                 clear ct_11_0 ct_16_0
                 clear Olist_3l0 Yt_20 Gt_20))
        replace H := let_hid H
        obtain ⟨t_23, ht_23, H⟩ := H
        replace H := app_hid H
        go_wp2_with fail
        go_roundg m0
        case measure => omega
        case rel => exact ⟨_, _, _, _, rfl, rfl, H, HBwt_20, Pt_20⟩
end Go.Proofs.Ytgfepdfamhnppaa.GiDistances
